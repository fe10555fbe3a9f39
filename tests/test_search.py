"""[43], [44], [45], [46]: searches."""

import random
import unittest

from helper import (FORMS, KINDS, Case, pair_by_words, pairs_by_words, shuffled, some_filter, some_index, some_question,
                    some_state, some_vector)
from nonearer.building import built
from nonearer.filters import passes
from nonearer.lots import lot_at, lots_in, own_keys
from nonearer.regions import ceiling_of, floor_of
from nonearer.search import Search, counted, found, found_behind, found_within
from nonearer.summaries import may_pass, must_pass

ALL = ("all",)
STATE = {1: (1, (0, 0), ()), 2: (2, (3, 0), ()), 3: (3, (9, 9), ()), 4: (4, (8, 9), ())}
INDEX = built(STATE, "sum", "boxes", room=2)


def number_by_words(index, path, kind, vector):
    """Returns the number of a lot: the greatest floor of it and of those that it lies in."""
    return max(floor_of(kind, lot_at(index, path[:end])[0], vector) for end in range(len(path) + 1))


def can_pass(lot, sieve):
    """Returns whether a lot can pass a filter."""
    return lot[1][0] > 0 and may_pass(sieve, lot[1])


class Told:
    """What a search has done, with all else found anew from the words of [43] and [44] each time."""

    def __init__(self, index, state, kind, vector, sieve, known, behind):
        self.index, self.state, self.kind, self.vector, self.sieve = index, state, kind, vector, sieve
        self.known, self.behind = known, behind
        self.lots, self.pairs = [], []

    def met(self):
        """Returns the paths of the lots that have been met."""
        return [()] + [path + (at,) for path in self.lots for at in range(len(lots_in(lot_at(self.index, path))))]

    def waits(self, path):
        """Returns whether a lot waits, if it has been met."""
        lot = lot_at(self.index, path)
        return (can_pass(lot, self.sieve)
                and (self.known is None or number_by_words(self.index, path, self.kind, self.vector) <= self.known)
                and (self.behind is None or ceiling_of(self.kind, lot[0], self.vector) >= self.behind[0]))

    def is_asked_for(self, pair):
        """Returns whether the pair of an item that passes is asked for."""
        return (self.known is None or pair[0] <= self.known) and (self.behind is None or pair > self.behind)

    def asked_for(self):
        """Returns all pairs that are asked for."""
        pairs = pairs_by_words(self.state, self.kind, self.vector, self.sieve)
        return [pair for pair in pairs if self.is_asked_for(pair)]

    def seen(self):
        """Returns the pairs that have been seen."""
        keys = [key for path in self.lots for key in own_keys(lot_at(self.index, path))]
        return [pair for pair in self.asked_for() if pair[1] in keys]

    def entries(self):
        """Returns all entries of which a step takes the least one."""
        lots = [(number_by_words(self.index, path, self.kind, self.vector), "lot", path)
                for path in self.met() if path not in self.lots and self.waits(path)]
        return lots + [(away, "pair", key) for away, key in self.seen() if (away, key) not in self.pairs]

    def step(self):
        """Does a step and returns its entry."""
        entry = min(self.entries(), default=None)
        if entry is not None and entry[1] == "lot":
            self.lots.append(entry[2])
        elif entry is not None:
            self.pairs.append((entry[0], entry[2]))
        return entry


def some_search(draw, most=9):
    """Returns the arguments of a random search, `known` and `behind` last."""
    kind, places = draw.choice(KINDS), draw.randint(1, 2)
    state = some_state(draw, draw.randint(0, most), places)
    index = some_index(draw, state, kind, draw.choice(FORMS))
    vector, sieve = some_vector(draw, places), some_filter(draw, draw.randint(1, 3))
    pairs = pairs_by_words(state, kind, vector, ALL)
    near = draw.choice([pair[0] for pair in pairs] + [0, 3])
    known = draw.choice((None, near, near + 1, max(near - 1, 0)))
    behind = draw.choice([None, None] + pairs + [(near, 0), (near, 99), (near + 1, 3), (0, 0)])
    return index, state, kind, vector, sieve, known, behind


class SearchTest(Case):

    def test_the_example(self):
        self.same(found(INDEX, STATE, ("sum", (1, 0), 2, ALL)), (((1, 1), (2, 2)), ((), (0,)), ((1,),)))
        search = Search(INDEX, STATE, "sum", (1, 0), ALL, behind=(1, 1))
        self.same((search.step(), search.step(), search.step(), search.bound()),
                  ((0, "lot", ()), (0, "lot", (0,)), (2, "pair", 2), 16))

    def test_attributes(self):
        search = Search(index=INDEX, state=STATE, kind="sum", vector=(1, 0), sieve=ALL, known=7, behind=(1, 1))
        self.assertTrue(search.index == INDEX)
        self.assertEqual((search.state, search.kind, search.vector, search.sieve, search.known, search.behind),
                         (STATE, "sum", (1, 0), ALL, 7, (1, 1)))
        search = Search(INDEX, STATE, "sum", (1, 0), ALL)
        self.assertEqual((search.known, search.behind), (None, None))
        with self.assertRaises(TypeError):
            Search(INDEX, STATE, "sum", (1, 0), ALL, 7)

    def test_a_new_search(self):
        search = Search(INDEX, STATE, "sum", (1, 0), ALL)
        self.same((search.pairs(), search.opened(), search.passed(), search.bound()), ((), (), ((),), 0))

    def test_no_items_and_one(self):
        for form in FORMS:
            for many in (1, 5):
                self.same(found(built({}, "sum", form, room=1), {}, ("sum", (1, 0), many, ALL)), ((), (), ((),)))
                one = {7: (7, (3, 3), ())}
                self.same(found(built(one, "sum", form, room=1), one, ("sum", (1, 0), many, ALL)),
                          (((5, 7),), ((),), ()))
        search = Search(built({}, "sum", "boxes", room=1), {}, "sum", (1, 0), ALL)
        self.assertIsNone(search.bound())
        self.assertIsNone(search.step())
        self.same((search.more(3), search.pairs(), search.opened(), search.passed()), ((), (), (), ((),)))

    def test_later_changes_of_the_state_do_not_matter(self):
        state = dict(STATE)
        search = Search(INDEX, state, "sum", (1, 0), ALL)
        state.clear()
        self.same(search.more(9), ((1, 1), (2, 2), (16, 4), (17, 3)))

    def test_more(self):
        search = Search(INDEX, STATE, "sum", (1, 0), ALL)
        self.same(search.more(0), ())
        self.same(search.opened(), ())
        self.same(search.more(many=1), ((1, 1),))
        self.same(search.more(2), ((2, 2), (16, 4)))
        self.same(search.more(5), ((17, 3),))
        self.same(search.more(5), ())
        self.same(search.pairs(), ((1, 1), (2, 2), (16, 4), (17, 3)))
        self.assertIsNone(search.bound())
        self.assertIsNone(search.step())

    def test_known_and_behind_at_the_pairs_themselves(self):
        for known, wanted in ((0, ()), (1, ((1, 1),)), (15, ((1, 1), (2, 2))), (16, ((1, 1), (2, 2), (16, 4)))):
            self.same(Search(INDEX, STATE, "sum", (1, 0), ALL, known=known).more(9), wanted)
        for behind, wanted in (((1, 0), (1, 2, 4, 3)), ((1, 1), (2, 4, 3)), ((1, 2), (2, 4, 3)), ((2, 2), (4, 3)),
                               ((16, 4), (3,)), ((17, 2), (3,)), ((17, 3), ()), ((99, 0), ())):
            search = Search(INDEX, STATE, "sum", (1, 0), ALL, behind=behind)
            self.same(tuple(pair[1] for pair in search.more(9)), wanted)
        search = Search(INDEX, STATE, "sum", (1, 0), ALL, known=16, behind=(1, 1))
        self.same(search.more(9), ((2, 2), (16, 4)))

    def test_steps_by_the_words(self):
        draw = random.Random(43)
        for _ in range(250):
            args = some_search(draw)
            told = Told(*args)
            search = self.unchanged(Search, *args[:5], known=args[5], behind=args[6])
            wanted, last = told.asked_for(), 0
            while True:
                bound = min([entry[0] for entry in told.entries()], default=None)
                self.same(search.bound(), bound)
                self.same(search.opened(), tuple(sorted(told.lots)))
                self.same(search.passed(), tuple(sorted(path for path in told.met() if path not in told.lots)))
                self.same(search.pairs(), tuple(told.pairs))
                self.assertEqual(told.pairs, wanted[:len(told.pairs)])
                for pair in wanted[len(told.pairs):]:
                    self.assertTrue(bound is not None and last <= bound <= pair[0])
                last = bound
                entry = told.step()
                self.same(search.step(), entry)
                if entry is None:
                    break
            self.assertEqual(told.pairs, wanted)

    def test_others_are_seen_or_wait(self):
        draw = random.Random(44)
        for _ in range(100):
            args = some_search(draw)
            told = Told(*args)
            steps = draw.randint(0, 9)
            search = Search(*args[:5], known=args[5], behind=args[6])
            for _ in range(steps):
                self.same(search.step(), told.step())
            waiting = [entry[2] for entry in told.entries() if entry[1] == "lot"]
            for pair in told.asked_for():
                keys = [key for path in waiting for key in keys_below(lot_at(args[0], path))]
                self.assertTrue(pair in told.pairs or pair in told.seen() or pair[1] in keys)


def keys_below(lot):
    """Returns the keys of all items of a lot."""
    return list(own_keys(lot)) + [key for inner in lots_in(lot) for key in keys_below(inner)]


def opened_by_words(index, is_opened, path=()):
    """Returns the lot of the paths of the lots for which something holds, and for all that they lie in."""
    lot = lot_at(index, path)
    if not is_opened(path, lot):
        return ()
    inner = [opened_by_words(index, is_opened, path + (at,)) for at in range(len(lots_in(lot)))]
    return tuple(sorted([path] + [one for paths in inner for one in paths]))


class FoundTest(Case):

    def test_answers_by_the_words(self):
        draw = random.Random(45)
        full = 0
        for _ in range(300):
            question = some_question(draw, draw.randint(1, 3))
            kind, vector, many, sieve = question
            state = some_state(draw, draw.randint(0, 12), len(vector))
            index = some_index(draw, state, kind, draw.choice(FORMS))
            answer = tuple(pairs_by_words(state, kind, vector, sieve)[:many])
            reach = answer[-1][0] if len(answer) == many else None

            def is_opened(path, lot):
                number = number_by_words(index, path, kind, vector)
                return can_pass(lot, sieve) and (reach is None or number <= reach)

            result = self.unchanged(found, index, state, question)
            self.same(result[:2], (answer, opened_by_words(index, is_opened)))
            met = {()} | {path + (at,) for path in result[1] for at in range(len(lots_in(lot_at(index, path))))}
            self.same(result[2], tuple(sorted(met - set(result[1]))))
            self.same(found(index=index, state=shuffled(draw, state), question=question, known=None), result)
            if reach is not None:
                full += 1
                for known in (reach, reach + 1, reach + draw.randint(0, 50)):
                    self.same(found(index, state, question, known=known), result)
        self.assertGreater(full, 80)

    def test_more_asked_for_than_there_is(self):
        self.same(found(INDEX, STATE, ("sum", (1, 0), 400, ALL)),
                  (((1, 1), (2, 2), (16, 4), (17, 3)), ((), (0,), (1,)), ()))

    def test_equal_vectors_and_distances(self):
        state = {key: (key, (5, 5), ()) for key in (9, 3, 7, 1)}
        for form in FORMS:
            index = built(state, "most", form, room=1)
            self.same(found(index, state, ("most", (5, 5), 2, ALL))[0], ((0, 1), (0, 3)))
            self.same(found_behind(index, state, ("most", (5, 5), 2, ALL), (0, 3))[0], ((0, 7), (0, 9)))
            self.same(found_within(index, state, "most", (5, 5), 0, ALL)[0], ((0, 1), (0, 3), (0, 7), (0, 9)))
            self.same(counted(index, state, "most", (5, 5), 0, ALL), (4, ()))
            self.same(counted(index, state, "most", (4, 5), 0, ALL)[0], 0)


class WithinTest(Case):

    def test_the_example(self):
        self.same(counted(INDEX, STATE, "sum", (1, 0), 20, ALL), (4, ()))
        self.same(found_behind(INDEX, STATE, ("sum", (1, 0), 5, ALL), (3, 0)),
                  (((16, 4), (17, 3)), ((), (1,)), ((0,),)))

    def test_reaches(self):
        for reach, many in ((0, 0), (1, 1), (2, 2), (15, 2), (16, 3), (17, 4)):
            pairs = found_within(index=INDEX, state=STATE, kind="sum", vector=(1, 0), reach=reach, sieve=ALL)[0]
            self.same(pairs, ((1, 1), (2, 2), (16, 4), (17, 3))[:many])
            self.same(counted(index=INDEX, state=STATE, kind="sum", vector=(1, 0), reach=reach, sieve=ALL)[0], many)
        self.same(counted(INDEX, STATE, "sum", (1, 0), 18, ALL), (4, ()))
        self.same(counted(INDEX, STATE, "sum", (1, 0), 17, ALL), (4, ()))
        self.same(counted(INDEX, STATE, "sum", (1, 0), 16, ALL), (3, ((), (1,))))
        self.same(counted(INDEX, STATE, "sum", (1, 0), 2, ALL), (2, ((),)))

    def test_no_items(self):
        for form in FORMS:
            index = built({}, "sum", form, room=1)
            self.same(found_within(index, {}, "sum", (1, 0), 9, ALL), ((), (), ((),)))
            self.same(counted(index, {}, "sum", (1, 0), 9, ALL), (0, ()))
            self.same(found_behind(index, {}, ("sum", (1, 0), 2, ALL), (0, 0)), ((), (), ((),)))

    def test_by_the_words(self):
        draw = random.Random(46)
        skipped = 0
        for _ in range(300):
            index, state, kind, vector, sieve, known, _ = some_search(draw, 12)
            reach = 3 if known is None else known
            told = Told(index, state, kind, vector, sieve, reach, None)
            while told.step() is not None:
                pass
            pairs = tuple(pair for pair in pairs_by_words(state, kind, vector, sieve) if pair[0] <= reach)
            result = self.unchanged(found_within, index, state, kind, vector, reach, sieve)
            self.same(result[:2], (pairs, tuple(sorted(told.lots))))
            self.same(result[2], tuple(sorted(set(told.met()) - set(told.lots))))

            def is_opened(path, lot):
                if not can_pass(lot, sieve) or floor_of(kind, lot[0], vector) > reach:
                    return False
                return not (must_pass(sieve, lot[1]) and ceiling_of(kind, lot[0], vector) <= reach)

            wanted = len(pairs), opened_by_words(index, is_opened)
            self.same(self.unchanged(counted, index, state, kind, vector, reach, sieve), wanted)
            skipped += len(wanted[1]) < len(told.lots)
        self.assertGreater(skipped, 30)

    def test_behind_by_the_words(self):
        draw = random.Random(47)
        for _ in range(200):
            index, state, kind, vector, sieve, _, behind = some_search(draw, 12)
            pair, many = behind or (0, 0), draw.randint(1, 4)
            told = Told(index, state, kind, vector, sieve, None, pair)
            while len(told.pairs) < many and told.step() is not None:
                pass
            result = self.unchanged(found_behind, index, state, (kind, vector, many, sieve), pair)
            self.same(result, (tuple(told.asked_for()[:many]), tuple(sorted(told.lots)),
                               tuple(sorted(set(told.met()) - set(told.lots)))))

    def test_pages_make_up_the_whole_sequence(self):
        draw = random.Random(48)
        for _ in range(60):
            index, state, kind, vector, sieve, _, _ = some_search(draw, 12)
            question = kind, vector, draw.randint(1, 4), sieve
            page = found(index, state, question)[0]
            pages = []
            while page:
                pages += page
                page = found_behind(index=index, state=state, question=question, pair=page[-1])[0]
            self.assertEqual(pages, pairs_by_words(state, kind, vector, sieve))

    def test_items_that_do_not_pass_are_not_told(self):
        state = {1: (1, (0,), (("a", 1),)), 2: (2, (0,), ())}
        index = built(state, "sum", "boxes", room=2)
        self.assertTrue(passes(("has", "a"), state[1]))
        self.same(pair_by_words("sum", (0,), state[1]), (0, 1))
        self.same(found(index, state, ("sum", (0,), 2, ("has", "a"))), (((0, 1),), ((),), ()))
        self.same(found(index, state, ("sum", (0,), 2, ("has", "b"))), ((), (), ((),)))


if __name__ == "__main__":
    unittest.main()
