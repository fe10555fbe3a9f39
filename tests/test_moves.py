"""[80], [81], [82]: books, moves between shards, and what settles them after a cut."""

import itertools
import random
import unittest

from helper import Case, odd_values, parts_of
from nonearer.errors import Refused
from nonearer.moves import (Book, after_steps, are_agreed, book_of, books_of, cut_logs, empty_book, move_steps, noted,
                            settling_steps, whole_state)
from nonearer.plain import done

ONE, TWO, FIVE = (1, (0, 0), ()), (2, (3, 1), (("red", 1),)), (5, (4, 4), ())
OTHER = (1, (9, 9), ())
OWNED = (("deed", ("put", ONE)), ("deed", ("put", TWO)), ("deed", ("put", FIVE)))


def book(state=(), waiting=None, given_away=None, mark=0):
    """Returns a book that owns some items."""
    return Book({item[0]: item for item in state}, waiting or {}, given_away or {}, mark)


def keys_with(entry):
    """Returns the keys that an entry tells."""
    if entry[0] == "deed":
        return [entry[1][1] if entry[1][0] == "take" else entry[1][1][0]]
    if entry[0] == "come":
        return [item[0] for item in entry[3]]
    return list(entry[3]) if entry[0] == "gone" else []


class BookTest(Case):

    def test_the_attributes(self):
        one = Book(mark=4, given_away={2: (0, (7,))}, waiting={3: (1, (FIVE,))}, state={1: ONE})
        self.assertEqual(parts_of(one), ({1: ONE}, {3: (1, (FIVE,))}, {2: (0, (7,))}, 4))
        self.assertEqual(parts_of(empty_book()), ({}, {}, {}, 0))

    def test_later_changes_have_no_effect(self):
        state, waiting, given_away = {1: ONE}, {3: (1, (FIVE,))}, {2: (0, (7,))}
        one = Book(state, waiting, given_away, 4)
        for table in (state, waiting, given_away):
            table.clear()
        self.assertEqual(parts_of(one), ({1: ONE}, {3: (1, (FIVE,))}, {2: (0, (7,))}, 4))

    def test_each_entry(self):
        start = book((ONE, TWO), {3: (1, (FIVE,))}, {2: (0, (7, 8))}, 4)
        rest = ({3: (1, (FIVE,))}, {2: (0, (7, 8))})
        for entry, wanted in (
                (("deed", ("put", OTHER)), ({1: OTHER, 2: TWO}, *rest, 4)),
                (("deed", ("put", (0, (1, 1), ()))), ({0: (0, (1, 1), ()), 1: ONE, 2: TWO}, *rest, 4)),
                (("deed", ("take", 2)), ({1: ONE}, *rest, 4)),
                (("deed", ("take", 9)), ({1: ONE, 2: TWO}, *rest, 4)),
                (("come", 4, 6, ((7, (0,), ()), (9, (1,), ()))),
                 ({1: ONE, 2: TWO}, {**rest[0], 4: (6, ((7, (0,), ()), (9, (1,), ())))}, rest[1], 5)),
                (("come", 9, 6, ((7, (0,), ()),)), ({1: ONE, 2: TWO}, {**rest[0], 9: (6, ((7, (0,), ()),))}, rest[1], 10)),
                (("gone", 4, 6, (1, 2)), ({}, rest[0], {**rest[1], 4: (6, (1, 2))}, 5)),
                (("gone", 7, 6, (2,)), ({1: ONE}, rest[0], {**rest[1], 7: (6, (2,))}, 8)),
                (("here", 3), ({1: ONE, 2: TWO, 5: FIVE}, {}, rest[1], 4)),
                (("drop", 3), ({1: ONE, 2: TWO}, {}, rest[1], 4)),
                (("done", 2), ({1: ONE, 2: TWO}, rest[0], {}, 4))):
            before = parts_of(start)
            after = noted(book=start, entry=entry)
            self.assertIs(after.__class__, Book)
            self.assertEqual(parts_of(after), wanted)
            self.assertEqual(parts_of(start), before)
            self.assertEqual(parts_of(noted(start, entry)), wanted)

    def test_each_refusal(self):
        start = book((ONE, TWO), {3: (1, (FIVE,))}, {2: (0, (7, 8))}, 4)
        seven, nine = (7, (0,), ()), (9, (1,), ())
        for entry in (("deed", ("put", FIVE)), ("deed", ("put", (5, (0, 0), ()))), ("deed", ("take", 5)),
                      ("come", 4, 0, (ONE,)), ("come", 4, 0, (OTHER, seven)), ("come", 4, 0, (FIVE,)),
                      ("come", 4, 0, (FIVE, seven)), ("come", 4, 0, ()), ("come", 4, 0, (nine, seven)),
                      ("come", 4, 0, (seven, seven)), ("come", 3, 0, (seven,)), ("come", 0, 0, (seven,)),
                      ("gone", 4, 0, ()), ("gone", 4, 0, (7,)), ("gone", 4, 0, (1, 7)), ("gone", 4, 0, (5,)),
                      ("gone", 4, 0, (2, 1)), ("gone", 4, 0, (1, 1)), ("gone", 3, 0, (1,)), ("gone", 2, 0, (1,)),
                      ("here", 2), ("here", 4), ("here", 0), ("drop", 2), ("drop", 4), ("done", 3), ("done", 4)):
            before = parts_of(start)
            self.refuses(Refused("entry"), noted, start, entry)
            self.assertEqual(parts_of(start), before)
        for entry in (("here", 0), ("drop", 0), ("done", 0), ("gone", 0, 1, (1,))):
            self.refuses(Refused("entry"), noted, empty_book(), entry)
        self.assertEqual(noted(empty_book(), ("deed", ("take", 1))).state, {})

    def test_books_of_logs(self):
        entries = OWNED + (("gone", 2, 1, (1, 5)), ("come", 3, 4, ((9, (0, 0), ()),)), ("done", 2))
        self.assertEqual(parts_of(self.unchanged(book_of, entries)), ({2: TWO}, {3: (4, ((9, (0, 0), ()),))}, {}, 4))
        self.assertEqual(parts_of(book_of(entries=())), ({}, {}, {}, 0))
        self.refuses(Refused("entry"), book_of, entries + (("done", 2),))
        books = books_of(logs=((entries, 2), ((), 0), (OWNED, 3)))
        self.same([parts_of(one)[3] for one in books], [4, 0, 0])
        self.assertEqual(books[2].state, {1: ONE, 2: TWO, 5: FIVE})
        self.same(books_of(()), ())


class StepsTest(Case):

    def test_after_steps(self):
        logs = ((OWNED[:1], 0), ((), 0))
        steps = (("write", 0, OWNED[1]), ("sync", 0), ("write", 1, ("come", 0, 0, (FIVE,))), ("write", 0, OWNED[2]))
        wanted = ((OWNED, 2), ((("come", 0, 0, (FIVE,)),), 0))
        self.same(self.unchanged(after_steps, logs, steps), wanted)
        self.same(after_steps(logs=logs, steps=()), logs)
        self.same(after_steps(wanted, (("sync", 1), ("sync", 0))), ((OWNED, 3), ((("come", 0, 0, (FIVE,)),), 1)))

    def test_cuts_of_logs(self):
        logs = ((OWNED, 1), ((), 0), (OWNED[:2], 2))
        for kept in ((1, 0, 2), (2, 0, 2), (3, 0, 2)):
            self.same(self.unchanged(cut_logs, logs, kept), ((OWNED[:kept[0]], kept[0]), ((), 0), (OWNED[:2], 2)))
        self.same(cut_logs(logs=(), kept=()), ())
        wrong = odd_values() + [(), (1, 0), (1, 0, 2, 0), (0, 0, 2), (4, 0, 2), (1, 1, 2), (1, 0, 1), (1, 0, 3), [1, 0, 2],
                                (True, 0, 2), (1, False, 2), (1.0, 0, 2), (1, -1, 2), ("1", 0, 2), (1, None, 2), 1, "102"]
        for kept in wrong:
            self.refuses(Refused("kept"), cut_logs, logs, kept)

    def test_the_steps_of_a_move(self):
        books = (book((ONE, TWO, FIVE), mark=3), book(mark=7), book(mark=5))
        wanted = (("write", 2, ("come", 7, 0, (ONE, FIVE))), ("sync", 2), ("write", 0, ("gone", 7, 2, (1, 5))), ("sync", 0),
                  ("write", 2, ("here", 7)), ("sync", 2), ("write", 0, ("done", 7)))
        self.same(move_steps(books=books, source=0, target=2, keys=(1, 5)), wanted)
        logs = ((OWNED, 0), ((), 0))
        after = books_of(after_steps(logs, move_steps(books_of(logs), 0, 1, (1, 5))))
        self.assertEqual([parts_of(one) for one in after], [({2: TWO}, {}, {}, 1), ({1: ONE, 5: FIVE}, {}, {}, 1)])

    def test_wrong_moves(self):
        books = (book((ONE, TWO)), book((FIVE,)))
        for odd in odd_values() + [-1, 2, 3, "0", (0,)]:
            for keys in ((1,), (9,), None):
                self.refuses(Refused("shard"), move_steps, books, odd, 1, keys)
                self.refuses(Refused("shard"), move_steps, books, 0, odd, keys)
                self.refuses(Refused("shard"), move_steps, books, odd, odd, keys)
        for shard in (0, 1):
            self.refuses(Refused("shard"), move_steps, books, shard, shard, (1,))
        for shard in (0, 1, None):
            self.refuses(Refused("shard"), move_steps, (), shard, 0, (1,))
        for keys in odd_values() + [(), (5,), (1, 5), (2, 1), (1, 1), [1], (True,), (1.0,), ("1",), (-1,), 1, "1", (None,)]:
            self.refuses(Refused("keys"), move_steps, books, 0, 1, keys)
        self.refuses(Refused("keys"), move_steps, books, 1, 0, (1,))


class SettlingTest(Case):

    def test_the_example(self):
        one = (4, (0, 0), ())
        logs = (((("deed", ("put", one)),), 1), ((), 0))
        logs = after_steps(logs, move_steps(books_of(logs), 0, 1, (4,))[:4])
        self.same(settling_steps(books_of(cut_logs(logs, (2, 1)))),
                  (("sync", 0), ("write", 1, ("here", 0)), ("sync", 1), ("write", 0, ("done", 0))))
        self.same(settling_steps(books_of(cut_logs(after_steps(((logs[0][0][:1], 1), ((), 0)), move_steps(books_of(
            ((logs[0][0][:1], 1), ((), 0))), 0, 1, (4,))[:3]), (1, 1)))), (("write", 1, ("drop", 0)), ("sync", 1)))

    def test_nothing_to_settle(self):
        self.same(settling_steps(()), ())
        self.same(settling_steps(books=(book((ONE,)), book(mark=9), empty_book())), ())

    def test_the_order(self):
        books = (book(waiting={4: (2, (FIVE,)), 3: (1, (TWO,))}, mark=5),
                 book(waiting={6: (2, (ONE,))}, given_away={3: (0, (2,)), 9: (0, (8,))}, mark=10),
                 book(waiting={1: (9, ((7, (0, 0), ()),))}, given_away={6: (1, (1,)), 4: (1, (5,)), 2: (7, (3,))}, mark=7))
        # Move 3 has been given away to shard 0 and move 6 to shard 1; move 4 to another one, and move 1 by no shard.
        self.same(settling_steps(books),
                  (("sync", 1), ("sync", 2),
                   ("write", 0, ("here", 3)), ("write", 0, ("drop", 4)), ("write", 1, ("here", 6)), ("write", 2, ("drop", 1)),
                   ("sync", 0), ("sync", 1), ("sync", 2),
                   ("write", 1, ("done", 3)), ("write", 1, ("done", 9)),
                   ("write", 2, ("done", 2)), ("write", 2, ("done", 4)), ("write", 2, ("done", 6))))

    def test_whole_states(self):
        self.assertEqual(whole_state(()), {})
        books = (book((ONE,), {3: (1, (TWO,)), 4: (1, (FIVE,)), 5: (7, ((8, (0, 0), ()),))}, mark=6),
                 book(given_away={3: (0, (2,)), 4: (1, (5,))}, mark=5))
        state = self.unchanged(whole_state, books)
        self.assertEqual(state, {1: ONE, 2: TWO})
        state.clear()
        self.assertEqual(books[0].state, {1: ONE})
        for twice in ((book((ONE,)), book((ONE,))), (book((ONE,)), book((OTHER,)), book((TWO,))),
                      (book((ONE,), {3: (1, (OTHER,))}, mark=4), book(given_away={3: (0, (1,))}, mark=4)),
                      (book((), {3: (1, (ONE,)), 4: (1, (ONE,))}, mark=5), book((), None, {3: (0, (1,)), 4: (0, (1,))}, 5)),
                      (book((), {3: (1, (ONE,))}, mark=4), book((ONE,), None, {3: (0, (1,))}, 4))):
            self.refuses(Refused("key"), whole_state, twice)
            self.assertIs(are_agreed(twice), False)
        # What waits and has not been given away so does not count.
        lone = (book((), {3: (1, (ONE,))}, mark=4), book((ONE,), None, {3: (1, (1,))}, 4))
        self.assertEqual(whole_state(books=lone), {1: ONE})

    def test_are_agreed(self):
        self.assertIs(are_agreed(books=()), True)
        waits, gone = {3: (1, (ONE, TWO))}, {3: (0, (1, 2))}
        for books, wanted in (
                ((book((ONE,)), book((TWO,))), True),
                ((book(waiting=waits, mark=4), book(given_away=gone, mark=4)), True),
                # What waits need not have been given away.
                ((book(waiting=waits, mark=4), book((ONE, TWO), mark=3)), True),
                # What is given away need not wait any more, but the mark tells that it has.
                ((book((ONE, TWO), mark=4), book(given_away=gone, mark=4)), True),
                ((book(mark=9), book(given_away=gone, mark=4)), True),
                ((book(mark=3), book(given_away=gone, mark=4)), False),
                ((book(mark=0), book(given_away=gone, mark=4)), False),
                # Moves come from shards and go to shards.
                ((book(waiting={3: (2, (ONE,))}, mark=4), book()), False),
                ((book(mark=9), book(given_away={3: (2, (1,))}, mark=4)), False),
                ((book(waiting={3: (2, (ONE,))}, mark=4), book(), book()), True),
                # Just these keys wait, from just this shard.
                ((book(waiting=waits, mark=4), book(given_away={3: (0, (1,))}, mark=4)), False),
                ((book(waiting=waits, mark=4), book(given_away={3: (0, (1, 2, 5))}, mark=4)), False),
                ((book(waiting=waits, mark=4), book(given_away={3: (0, (1, 5))}, mark=4)), False),
                ((book(waiting=waits, mark=4), book(), book(given_away=gone, mark=4)), False),
                ((book(waiting=waits, mark=4), book(given_away=gone, mark=4), book(given_away=gone, mark=4)), False)):
            self.assertIs(self.unchanged(are_agreed, books), wanted)

    def test_a_move_that_is_cut_behind_each_step(self):
        start = ((OWNED, 3), ((("deed", ("put", (7, (1, 1), ()))),), 1))
        steps = move_steps(books_of(start), 0, 1, (1, 5))
        whole = whole_state(books_of(start))
        for many in range(8):
            logs = after_steps(start, steps[:many])
            for kept in itertools.product(*[range(synced, len(entries) + 1) for entries, synced in logs]):
                self.check_settling(cut_logs(logs, kept), whole, 2)

    def check_settling(self, logs, whole, depth):
        """Asserts that settling some logs, however often it is cut, leaves the whole state and nothing to settle."""
        books = books_of(logs)
        self.assertTrue(are_agreed(books))
        self.assertEqual(whole_state(books), whole)
        steps = settling_steps(books)
        after = books_of(after_steps(logs, steps))
        self.assertTrue(are_agreed(after))
        self.assertEqual(whole_state(after), whole)
        self.same(settling_steps(after), ())
        self.assertEqual({key: item for one in after for key, item in one.state.items()}, whole)
        for many in range(len(steps) + 1 if depth else 0):
            left = after_steps(logs, steps[:many])
            for kept in itertools.product(*[range(synced, len(entries) + 1) for entries, synced in left]):
                self.check_settling(cut_logs(left, kept), whole, depth - 1)


class RunTest(Case):
    """Runs of deeds and moves that are cut anywhere, and settled then."""

    def setUp(self):
        self.draw = random.Random(82)

    def make(self, step):
        """Makes a step, unless the run has been stopped."""
        self.left -= 1
        if self.left >= 0:
            self.logs = after_steps(self.logs, (step,))
            self.assertTrue(are_agreed(books_of(self.logs)))
            if step[0] == "write" and step[2][0] == "deed":
                self.deeds.append((step[2][1], step[1], len(self.logs[step[1]][0])))

    def do_a_deed(self):
        key = self.draw.randint(0, 4)
        deed = ("put", (key, (self.draw.randint(0, 99),), ()))
        books = books_of(self.logs)
        owners = [shard for shard, one in enumerate(books) if key in one.state]
        if owners and self.draw.randint(0, 2) == 0:
            deed = ("take", key)
        shard = owners[0] if owners else self.draw.randrange(len(books))
        if not owners:
            for other, (entries, synced) in enumerate(self.logs):
                if other != shard and any(key in keys_with(entry) for entry in entries[synced:]):
                    self.make(("sync", other))
        self.make(("write", shard, ("deed", deed)))

    def do_a_move(self):
        books = books_of(self.logs)
        source = self.draw.choice([shard for shard, one in enumerate(books) if one.state] or [None])
        if source is not None:
            target = self.draw.choice([shard for shard in range(len(books)) if shard != source])
            keys = self.draw.sample(sorted(books[source].state), self.draw.randint(1, len(books[source].state)))
            for step in move_steps(books, source, target, tuple(sorted(keys))):
                self.make(step)

    def cut_and_settle(self):
        logs = self.logs
        self.logs = cut_logs(logs, tuple(self.draw.randint(synced, len(entries)) for entries, synced in logs))
        books = books_of(self.logs)
        self.assertTrue(are_agreed(books))
        whole = whole_state(books)
        kept = []
        for key in range(5):
            own = [one for one in self.deeds if (one[0][1] if one[0][0] == "take" else one[0][1][0]) == key]
            stay = [one for one in own if one[2] <= len(self.logs[one[1]][0])]
            # What stays is a beginning, with all that were safe.
            self.assertEqual(stay, own[:len(stay)])
            self.assertTrue(all(one in stay for one in own if one[2] <= logs[one[1]][1]))
            state = {}
            for deed, _, _ in stay:
                state = done(state, deed)
            self.assertEqual(state.get(key), whole.get(key))
            kept += stay
        self.deeds = [one for one in self.deeds if one in kept]
        steps = settling_steps(books)
        many = self.draw.randint(0, len(steps))
        self.logs = after_steps(self.logs, steps[:many])
        self.assertTrue(are_agreed(books_of(self.logs)))
        self.assertEqual(whole_state(books_of(self.logs)), whole)
        if many < len(steps):
            return self.cut_and_settle()
        self.same(settling_steps(books_of(self.logs)), ())
        return whole

    def test_runs(self):
        moved = 0
        for _ in range(150):
            self.logs = (((), 0),) * self.draw.randint(2, 3)
            self.deeds = []
            for _ in range(self.draw.randint(1, 4)):
                self.left = self.draw.randint(0, 40)
                while self.left > 0:
                    self.draw.choice((self.do_a_deed, self.do_a_deed, self.do_a_move, self.do_a_sync))()
                self.cut_and_settle()
            moved += any(entry[0] == "here" for entries, _ in self.logs for entry in entries)
        self.assertGreater(moved, 50)

    def do_a_sync(self):
        self.make(("sync", self.draw.randrange(len(self.logs))))


if __name__ == "__main__":
    unittest.main()
