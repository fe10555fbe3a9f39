"""[35], [36], [37]: indexes, lots, and whether they are sound."""

import random
import unittest

from helper import (EMPTY_REGIONS, FORMS, KINDS, Awkward, Case, lots_by_words, odd_values, shuffled, some_filter,
                    some_index, some_state, some_vector)
from nonearer.distances import distance
from nonearer.filters import passes
from nonearer.lots import (Index, all_keys, all_lots, depth_of, index_fault, is_sound, lot_at, lot_count, lots_in,
                           own_keys, path_of)
from nonearer.regions import ceiling_of, floor_of
from nonearer.summaries import may_pass, must_pass

STATE = {1: (1, (0, 0), ()), 2: (2, (3, 0), (("red", 5),)), 3: (3, (9, 9), (("new", 4),))}
NEAR = (("box", (0, 0), (3, 0)), (2, (("red", 1, 5, 5),)), ("items", (1, 2)))
FAR = (("box", (9, 9), (9, 9)), (1, (("new", 1, 4, 4),)), ("items", (3,)))
ALL_ROWS = (("new", 1, 4, 4), ("red", 1, 5, 5))
WHOLE = (("box", (0, 0), (9, 9)), (3, ALL_ROWS), ("lots", (NEAR, FAR)))
INDEX = Index("sum", "boxes", WHOLE, 2)


def replaced(value, at, other):
    """Returns a tuple with another item at an index."""
    return value[:at] + (other,) + value[at + 1:]


def with_lot(number, lot):
    """Returns the index with another value in place of its lot with a number, 0 to 2."""
    if number == 0:
        return Index("sum", "boxes", lot, 2)
    return Index("sum", "boxes", replaced(WHOLE, 2, ("lots", replaced((NEAR, FAR), number - 1, lot))), 2)


def depth_by_words(lot):
    """Returns the depth of a lot."""
    return 1 + max([depth_by_words(one) for one in lot[2][1]], default=0) if lot[2][0] == "lots" else 1


def chain(many):
    """Returns a state of so many items and a sound index of it, each lot of which has an item and all further lots."""
    state = {key: (key, (key,), ()) for key in range(many)}
    single = [(("box", (key,), (key,)), (1, ()), ("items", (key,))) for key in range(many)]
    lot = single[-1]
    for key in range(many - 2, -1, -1):
        lot = (("box", (key,), (many - 1,)), (many - key, ()), ("lots", (single[key], lot)))
    return state, Index("sum", "boxes", lot, 1)


class IndexTest(Case):

    def test_attributes(self):
        index = Index(kind="sum", form="boxes", lot=WHOLE, room=2)
        self.assertEqual((index.kind, index.form, index.lot, index.room), ("sum", "boxes", WHOLE, 2))

    def test_equality(self):
        self.assertTrue(INDEX == Index("sum", "boxes", WHOLE, 2))
        self.assertFalse(INDEX != Index("sum", "boxes", WHOLE, 2))
        for other in (Index("most", "boxes", WHOLE, 2), Index("sum", "balls", WHOLE, 2), Index("sum", "boxes", NEAR, 2),
                      Index("sum", "boxes", WHOLE, 3)):
            self.assertFalse(INDEX == other)
            self.assertTrue(INDEX != other)
        for value in [one for one in odd_values() if not isinstance(one, Awkward)] + [WHOLE, "sum", 1]:
            self.assertFalse(INDEX == value)
            self.assertTrue(INDEX != value)


class LotsTest(Case):

    def test_the_lots_of_an_index(self):
        self.same(all_lots(INDEX), (WHOLE, NEAR, FAR))
        self.same((lot_count(INDEX), depth_of(INDEX)), (3, 2))
        self.same(all_keys(WHOLE), (1, 2, 3))
        self.same(all_keys(lot=NEAR), (1, 2))
        self.same((lots_in(WHOLE), lots_in(lot=FAR)), ((NEAR, FAR), ()))
        self.same((own_keys(WHOLE), own_keys(lot=FAR)), ((), (3,)))
        self.same((lot_at(INDEX, ()), lot_at(INDEX, (0,)), lot_at(index=INDEX, path=(1,))), (WHOLE, NEAR, FAR))
        self.same([path_of(INDEX, key) for key in (1, 2, 3, 4)], [(0,), (0,), (1,), None])
        self.assertIsNone(path_of(index=INDEX, key=0))

    def test_an_index_of_one_lot(self):
        for form, region in EMPTY_REGIONS.items():
            index = Index("sum", form, (region, (0, ()), ("items", ())), 1)
            self.same(all_lots(index), (index.lot,))
            self.same((lot_count(index), depth_of(index), all_keys(index.lot)), (1, 1, ()))
            self.assertIsNone(path_of(index, 1))
            self.assertIsNone(index_fault(index, {}))
            self.assertIs(is_sound(index, {}), True)
        index = Index("sum", "boxes", NEAR, 2)
        self.same(path_of(index, 2), ())

    def test_the_sequence_of_lots(self):
        draw = random.Random(35)
        for _ in range(60):
            state = some_state(draw, draw.randint(0, 12), 2)
            index = some_index(draw, state, "sum", "boxes")
            lots = tuple(lots_by_words(index.lot))
            self.same(all_lots(index=index), lots)
            self.same(lot_count(index=index), len(lots))
            self.same(depth_of(index=index), depth_by_words(index.lot))
            self.same(all_keys(index.lot), tuple(sorted(state)))
            for key in state:
                self.assertIn(key, own_keys(lot_at(index, path_of(index, key))))
            self.assertEqual(sum(len(own_keys(lot)) for lot in lots), len(state))

    def test_lots_that_lie_deep_in_one_another(self):
        state, index = chain(400)
        self.same((lot_count(index), depth_of(index), len(all_keys(index.lot))), (799, 400, 400))
        self.same(path_of(index, 399), (1,) * 399)
        self.same(own_keys(lot_at(index, path_of(index, 398))), (398,))
        self.assertIsNone(index_fault(index, state))
        self.same(index_fault(index, {key: state[key] for key in state if key != 399}), ("key", 798))


class SoundTest(Case):

    def test_sound_indexes(self):
        self.assertIsNone(index_fault(INDEX, STATE))
        self.assertIs(is_sound(INDEX, STATE), True)
        draw = random.Random(36)
        for _ in range(150):
            kind, form = draw.choice(KINDS), draw.choice(FORMS)
            state = some_state(draw, draw.randint(0, 12), draw.randint(1, 3))
            index = some_index(draw, state, kind, form)
            self.assertIsNone(self.unchanged(index_fault, index, state))
            self.assertIs(is_sound(value=index, state=shuffled(draw, state)), True)

    def test_no_index(self):
        for value in odd_values() + [WHOLE, ("sum", "boxes", WHOLE, 2), 1, "index"]:
            self.same(index_fault(value, STATE), ("form", -1))
            self.assertIs(is_sound(value, STATE), False)
        for odd in odd_values() + [0, -1, "sums", "box", ()]:
            self.same(index_fault(Index(odd, "boxes", WHOLE, 2), STATE), ("form", -1))
            self.same(index_fault(Index("sum", odd, WHOLE, 2), STATE), ("form", -1))
            self.same(index_fault(value=Index("sum", "boxes", WHOLE, odd), state=STATE), ("form", -1))
        self.same(index_fault(Index("sum", "boxes", None, 0), STATE), ("form", -1))

    def test_what_is_no_lot(self):
        for value in odd_values() + [(), WHOLE[:2], WHOLE + (1,), list(WHOLE), "lot", 3]:
            self.same(index_fault(with_lot(0, value), STATE), ("form", 0))
            # A lot whose own lots are no tuples of three has no content.
            self.same(index_fault(with_lot(1, value), STATE), ("form", 0))
            self.same(index_fault(with_lot(2, value), STATE), ("form", 0))

    def test_what_is_no_content(self):
        contents = odd_values() + [(), ("items",), ("lots",), ("items", (1,), 2), ["items", (1, 2)], ("Items", (1, 2)),
                                   ("items", 1), ("items", [1, 2]), ("items", (2, 1)), ("items", (1, 1)),
                                   ("items", (-1,)), ("items", (True,)), ("items", ("a",)), ("items", (1, None)),
                                   ("items", (1, 2, 3)), ("lots", ()), ("lots", (FAR,)), ("lots", [NEAR, FAR]),
                                   ("lots", (NEAR, None)), ("lots", (NEAR, FAR[:2])), ("lots", NEAR), (1, (1, 2)),
                                   ("", ()), ("keys", (1, 2)), ("lots", (1, 2)), ("items", "ab"), "ab"]
        for odd in odd_values():
            contents += [(odd, (1, 2)), ("items", odd), ("lots", odd), ("items", (odd,)), ("lots", (NEAR, odd))]
        for number, lot in enumerate((WHOLE, NEAR, FAR)):
            for content in contents:
                self.same(index_fault(with_lot(number, replaced(lot, 2, content)), STATE), ("form", number))

    def test_the_room(self):
        for room in (1, 2, 3):
            wanted = ("form", 1) if room == 1 else None
            self.assertEqual(index_fault(Index("sum", "boxes", WHOLE, room), STATE), wanted)

    def test_keys(self):
        self.same(index_fault(INDEX, {key: STATE[key] for key in (1, 2)}), ("key", 2))
        self.same(index_fault(INDEX, {key: STATE[key] for key in (1, 3)}), ("key", 1))
        self.same(index_fault(INDEX, {}), ("key", 1))
        self.same(index_fault(with_lot(2, replaced(FAR, 2, ("items", (2,)))), STATE), ("key", 2))
        self.same(index_fault(with_lot(2, NEAR), STATE), ("key", 2))
        self.same(index_fault(with_lot(2, replaced(FAR, 2, ("items", (2, 7)))), STATE), ("key", 2))

    def test_missing_keys(self):
        more = {9: (9, (3, 3), ()), 5: (5, (3, 3), ())}
        self.same(index_fault(INDEX, {**STATE, **more}), ("missing", 5))
        self.same(index_fault(with_lot(2, replaced(FAR, 2, ("items", ()))), STATE), ("missing", 3))
        self.same(index_fault(Index("sum", "boxes", (("box", (), ()), (0, ()), ("items", ())), 2), STATE),
                  ("missing", 1))

    def test_empty_lots(self):
        empty = (("box", (9, 9), (9, 9)), (0, ()), ("items", ()))
        three = Index("sum", "boxes", replaced(WHOLE, 2, ("lots", (NEAR, empty, FAR))), 2)
        self.same(index_fault(three, STATE), ("empty", 2))
        inner = (("box", (0, 0), (9, 9)), (0, ()), ("lots", (empty, empty)))
        self.same(index_fault(Index("sum", "boxes", replaced(WHOLE, 2, ("lots", (NEAR, FAR, inner))), 2), STATE),
                  ("empty", 3))

    def test_regions(self):
        wrong = odd_values() + [(), ("box", (0, 0), (3,)), ("box", (0,), (3,)), ("ball", (0, 0), 99), ("box",),
                                ("cell", (0, 0), 0, 99), ("box", (0, 0, 0), (9, 9, 9)), ("box", (9, 9), (0, 0)),
                                ("box", (True, 0), (9, 9)), "box", ("box", (), ())]
        for number, lot in enumerate((WHOLE, NEAR, FAR)):
            for region in wrong:
                self.same(index_fault(with_lot(number, replaced(lot, 0, region)), STATE), ("region", number))
        self.same(index_fault(with_lot(0, replaced(WHOLE, 0, ("box", (0, 0), (9, 8)))), STATE), ("region", 0))
        self.same(index_fault(with_lot(1, replaced(NEAR, 0, ("box", (0, 0), (2, 0)))), STATE), ("region", 1))
        self.assertIsNone(index_fault(with_lot(1, replaced(NEAR, 0, ("box", (-50, 0), (99, 70)))), STATE))

    def test_regions_by_the_kind_and_the_form(self):
        items = ("items", (1, 2, 3))
        for kind, radius in (("square", 162), ("sum", 18), ("most", 9), ("unlike", 2)):
            for less, wanted in ((0, None), (1, ("region", 0))):
                ball, cell = ("ball", (0, 0), radius - less), ("cell", (0, 0), 0, radius - less)
                self.assertEqual(index_fault(Index(kind, "balls", (ball, (3, ALL_ROWS), items), 3), STATE), wanted)
                self.assertEqual(index_fault(Index(kind, "cells", (cell, (3, ALL_ROWS), items), 3), STATE), wanted)
                self.same(index_fault(Index(kind, "cells", (ball, (3, ALL_ROWS), items), 3), STATE), ("region", 0))
                self.same(index_fault(Index(kind, "boxes", (ball, (3, ALL_ROWS), items), 3), STATE), ("region", 0))
        cell = ("cell", (0, 0), 1, 99)
        self.same(index_fault(Index("sum", "cells", (cell, (3, ALL_ROWS), items), 3), STATE), ("region", 0))

    def test_the_lot_of_a_state_without_items(self):
        for form, region in EMPTY_REGIONS.items():
            for other in [one for one in EMPTY_REGIONS.values() if one != region] + [("ball", (), 1), ("cell", (), 0, 1),
                          ("ball", (0,), 0), ("box", (0,), (0,)), ("cell", (0,), 0, 0), None, Awkward()]:
                index = Index("sum", form, (other, (0, ()), ("items", ())), 1)
                self.same(index_fault(index, {}), ("region", 0))
            self.same(index_fault(Index("sum", form, (region, (1, ()), ("items", ())), 1), {}), ("summary", 0))
            one = (region, (0, ()), ("items", ()))
            self.same(index_fault(Index("sum", form, replaced(one, 2, ("lots", (one, one))), 1), {}), ("empty", 1))

    def test_summaries(self):
        wrong = odd_values() + [(), (3,), (3, ()), (4, ALL_ROWS), (3, ALL_ROWS[:1]), (3, ALL_ROWS[::-1]), "ab",
                                (3, ALL_ROWS + (("size", 1, 1, 1),)), (True, ()), (3, (ALL_ROWS[0], ("red", 1, 5, 6))),
                                (3, (ALL_ROWS[0], ("red", 1, 6, 6))), (3, (ALL_ROWS[0], ("red", 2, 5, 5)))]
        for number, lot in enumerate((WHOLE, NEAR, FAR)):
            for told in wrong:
                self.same(index_fault(with_lot(number, replaced(lot, 1, told)), STATE), ("summary", number))

    def test_the_first_of_several_faults(self):
        bad_region, bad_summary = replaced(FAR, 0, None), replaced(FAR, 1, None)
        self.same(index_fault(with_lot(2, replaced(bad_region, 2, ("items", 3))), STATE), ("form", 2))
        self.same(index_fault(with_lot(2, replaced(bad_region, 2, ("items", (1, 3)))), STATE), ("key", 2))
        self.same(index_fault(with_lot(2, replaced(bad_region, 2, ("items", ()))), STATE), ("missing", 3))
        self.same(index_fault(with_lot(2, replaced(bad_region, 1, None)), STATE), ("region", 2))
        # Lot by lot: the summary of an earlier lot comes before the region of a later one.
        both = replaced(WHOLE, 2, ("lots", (replaced(NEAR, 1, None), bad_region)))
        self.same(index_fault(with_lot(0, both), STATE), ("summary", 1))
        self.same(index_fault(with_lot(0, replaced(both, 0, None)), STATE), ("region", 0))
        self.same(index_fault(with_lot(0, replaced(both, 1, None)), STATE), ("summary", 0))
        self.same(index_fault(with_lot(2, bad_summary), STATE), ("summary", 2))

    def test_lots_that_are_left_out_or_doubled(self):
        draw = random.Random(37)
        for _ in range(100):
            state = some_state(draw, draw.randint(4, 10), 2)
            index = some_index(draw, state, "sum", "boxes")
            if index.lot[2][0] != "lots":
                continue
            lots = index.lot[2][1]
            at = draw.randrange(len(lots))
            doubled = Index("sum", "boxes", replaced(index.lot, 2, ("lots", lots + (lots[at],))), index.room)
            number = lot_count(index) + [one[2][0] for one in lots_by_words(lots[at])].index("items")
            self.same(index_fault(doubled, state), ("key", number))
            if len(lots) > 2:
                fewer = Index("sum", "boxes", replaced(index.lot, 2, ("lots", lots[:at] + lots[at + 1:])), index.room)
                self.same(index_fault(fewer, state), ("missing", all_keys(lots[at])[0]))

    def test_a_deep_value(self):
        lot, wrong = NEAR, (None, None, None)
        for _ in range(5000):
            lot, wrong = (None, None, ("lots", (NEAR, lot))), (None, None, ("lots", (NEAR, wrong)))
        self.same(index_fault(Index("sum", "boxes", lot, 2), STATE), ("key", 3))
        self.same(index_fault(Index("sum", "boxes", wrong, 2), STATE), ("form", 10000))
        while lot is not NEAR:
            lot, wrong = lot[2][1][1], wrong[2][1][1]


class TellTest(Case):

    def test_what_lots_tell(self):
        draw = random.Random(38)
        refused = 0
        for _ in range(120):
            kind, form, places = draw.choice(KINDS), draw.choice(FORMS), draw.randint(1, 3)
            state = some_state(draw, draw.randint(1, 10), places)
            index = some_index(draw, state, kind, form)
            vector, sieve = some_vector(draw, places, 6), some_filter(draw, 3)
            for lot in all_lots(index):
                items = [state[key] for key in all_keys(lot)]
                away = [distance(kind, vector, item[1]) for item in items]
                self.assertLessEqual(floor_of(kind, lot[0], vector), min(away))
                self.assertGreaterEqual(ceiling_of(kind, lot[0], vector), max(away))
                passed = [passes(sieve, item) for item in items]
                self.assertTrue(may_pass(sieve, lot[1]) or not any(passed))
                self.assertTrue(all(passed) or not must_pass(sieve, lot[1]))
                refused += not may_pass(sieve, lot[1])
        self.assertGreater(refused, 50)


if __name__ == "__main__":
    unittest.main()
