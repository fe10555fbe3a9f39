"""[47]: extremes."""

import random
import unittest

from helper import (FORMS, KINDS, Case, distance_by_words, keys_by_words, lots_by_words, pairs_by_words, some_filter,
                    some_index, some_question, some_state)
from nonearer.around import floor_between
from nonearer.building import built
from nonearer.extremes import closest, farthest
from nonearer.filters import passes
from nonearer.lots import lot_at, lots_in
from nonearer.regions import ceiling_of
from nonearer.summaries import may_pass

ALL = ("all",)
STATE = {1: (1, (0, 0), ()), 2: (2, (3, 0), ()), 3: (3, (9, 9), (("a", 1),)), 4: (4, (8, 9), ())}
INDEX = built(STATE, "sum", "boxes", room=2)


def far_lots_by_words(index, question, last, path=()):
    """Returns the lot of the paths of the lots that are opened to find the farthest items."""
    kind, vector, _, sieve = question
    lot = lot_at(index, path)
    if lot[1][0] == 0 or not may_pass(sieve, lot[1]) or (last is not None and ceiling_of(kind, lot[0], vector) < last):
        return ()
    inner = [far_lots_by_words(index, question, last, path + (at,)) for at in range(len(lots_in(lot)))]
    return tuple(sorted([path] + [one for paths in inner for one in paths]))


def triples_by_words(state, kind, sieve):
    """Returns the ascending list of the triples of all pairs of items that pass."""
    keys = sorted(key for key in state if passes(sieve, state[key]))
    return sorted((distance_by_words(kind, state[one][1], state[other][1]), one, other)
                  for at, one in enumerate(keys) for other in keys[at + 1:])


def most_looked_at(index, state, sieve, triples, last):
    """Returns the greatest number of pairs that may be looked at if there are as many triples as asked for."""
    lots = [lot for lot in lots_by_words(index.lot) if lot[2][0] == "items"]
    holder = {key: at for at, lot in enumerate(lots) for key in keys_by_words(lot)}
    many = 0
    for _, one, other in triples:
        first, second = lots[holder[one]], lots[holder[other]]
        floor = min(floor_between(index.kind, first[0], second[0]), floor_between(index.kind, second[0], first[0]))
        many += first is second or floor <= last
    return many


class FarthestTest(Case):

    def test_simple_ones(self):
        self.same(farthest(INDEX, STATE, ("sum", (1, 0), 1, ALL)), (((17, 3),), ((), (1,))))
        self.same(farthest(INDEX, STATE, ("sum", (1, 0), 3, ALL)), (((17, 3), (16, 4), (2, 2)), ((), (0,), (1,))))
        self.same(farthest(index=INDEX, state=STATE, question=("sum", (1, 0), 9, ("has", "a"))),
                  (((17, 3),), ((), (1,))))
        self.same(farthest(INDEX, STATE, ("sum", (1, 0), 9, ("has", "b"))), ((), ()))

    def test_no_items_and_one(self):
        for form in FORMS:
            self.same(farthest(built({}, "sum", form, room=1), {}, ("sum", (1, 0), 2, ALL)), ((), ()))
            one = {7: (7, (3, 3), ())}
            self.same(farthest(built(one, "sum", form, room=1), one, ("sum", (1, 0), 2, ALL)), (((5, 7),), ((),)))

    def test_equal_distances_with_lesser_keys_first(self):
        state = {key: (key, (5 * side, 0), ()) for key, side in ((9, 1), (3, -1), (7, 1), (1, -1))}
        for form in FORMS:
            for room in (1, 2, 4):
                index = built(state, "most", form, room=room)
                self.same(farthest(index, state, ("most", (0, 0), 3, ALL))[0], ((5, 1), (5, 3), (5, 7)))

    def test_by_the_words(self):
        draw = random.Random(47)
        closed = 0
        for _ in range(400):
            question = some_question(draw, draw.randint(1, 3))
            kind, vector, many, sieve = question
            state = some_state(draw, draw.randint(0, 12), len(vector))
            index = some_index(draw, state, kind, draw.choice(FORMS))
            pairs = sorted(pairs_by_words(state, kind, vector, sieve), key=lambda pair: (-pair[0], pair[1]))[:many]
            last = pairs[-1][0] if len(pairs) == many else None
            wanted = tuple(pairs), far_lots_by_words(index, question, last)
            self.same(self.unchanged(farthest, index, state, question), wanted)
            closed += len(wanted[1]) < len(far_lots_by_words(index, question, None))
        self.assertGreater(closed, 50)


class ClosestTest(Case):

    def test_simple_ones(self):
        self.same(closest(INDEX, STATE, 1, ALL)[0], ((1, 3, 4),))
        self.same(closest(INDEX, STATE, 2, ALL)[0], ((1, 3, 4), (3, 1, 2)))
        self.same(closest(index=INDEX, state=STATE, many=9, sieve=ALL),
                  (((1, 3, 4), (3, 1, 2), (14, 2, 4), (15, 2, 3), (17, 1, 4), (18, 1, 3)), 6))
        self.same(closest(INDEX, STATE, 9, ("has", "a")), ((), 0))
        self.same(closest(INDEX, STATE, 9, ("has", "b")), ((), 0))

    def test_no_items_and_one(self):
        for form in FORMS:
            for state in ({}, {7: (7, (3, 3), ())}):
                self.same(closest(built(state, "sum", form, room=1), state, 5, ALL), ((), 0))

    def test_equal_vectors(self):
        state = {key: (key, (5, 0), ()) for key in (9, 3, 7, 1)}
        for form in FORMS:
            for room in (1, 2, 4):
                index = built(state, "unlike", form, room=room)
                triples, many = closest(index, state, 4, ALL)
                self.same(triples, ((0, 1, 3), (0, 1, 7), (0, 1, 9), (0, 3, 7)))
                self.assertTrue(4 <= many <= 6)

    def test_by_the_words(self):
        draw = random.Random(48)
        fewer = 0
        for _ in range(400):
            kind, places = draw.choice(KINDS), draw.randint(1, 3)
            state = some_state(draw, draw.randint(0, 12), places, draw.choice((2, 6)))
            index = some_index(draw, state, kind, draw.choice(FORMS))
            sieve, many = draw.choice((ALL, some_filter(draw, 2))), draw.randint(1, 9)
            triples = triples_by_words(state, kind, sieve)
            found, looked_at = self.unchanged(closest, index, state, many, sieve)
            self.same(found, tuple(triples[:many]))
            self.assertIs(looked_at.__class__, int)
            self.assertGreaterEqual(looked_at, len(found))
            most = len(triples)
            if len(found) == many:
                most = most_looked_at(index, state, sieve, triples, found[-1][0])
            self.assertLessEqual(looked_at, most)
            fewer += looked_at < len(triples)
        self.assertGreater(fewer, 50)

    def test_400_items(self):
        draw = random.Random(49)
        state = some_state(draw, 400, 2, 10 ** 4)
        for form in FORMS:
            index = built(state, "square", form, room=8)
            triples, looked_at = closest(index, state, 5, ALL)
            self.same(triples, tuple(triples_by_words(state, "square", ALL)[:5]))
            self.assertLess(looked_at, 20000)


if __name__ == "__main__":
    unittest.main()
