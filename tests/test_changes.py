"""[60], [61], [62], [63], [64], [65]: indexes that are changed."""

import random
import unittest

from helper import (EMPTY_REGIONS, FORMS, KINDS, Case, keys_by_words, lots_by_words, odd_values, pairs_by_words,
                    shuffled, some_filter, some_index, some_labels, some_state, some_vector)
from nonearer.building import built, built_lot, rings_of
from nonearer.changes import (after_deed, after_deeds, changed_into, depth_limit, holding_lots, is_tidy, place_for,
                              rebuilt, tidy_fault, with_item, without_key)
from nonearer.lots import Index, all_keys, index_fault, is_sound, lot_at, path_of
from nonearer.plain import deeds_between, done, done_all
from nonearer.regions import cell_of, floor_of, region_of
from nonearer.search import found
from nonearer.summaries import summary

ALL = ("all",)

# The numbers of items of the lots that the functions below have built anew.
ANEW = []


def inner_by_words(lot):
    """Returns the list of the lots of a lot."""
    return list(lot[2][1]) if lot[2][0] == "lots" else []


def depth_by_words(lot):
    """Returns how many lots lie one in another in a lot."""
    return 1 + max([depth_by_words(inner) for inner in inner_by_words(lot)], default=0)


def limit_by_words(count):
    """Returns the depth limit, as [60] says."""
    return 3 + 2 * len(bin(count - 1)[2:].lstrip("0")) if count else 3


def fits_by_words(index, state, lot):
    """Returns the lot with the region and the summary that its items need."""
    items = tuple(state[key] for key in sorted(keys_by_words(lot)))
    vectors = tuple(item[1] for item in items)
    if index.form == "cells":
        region = cell_of(index.kind, lot[0][1], vectors)
    else:
        region = region_of(index.kind, index.form, vectors)
    return region, summary(items), lot[2]


def is_tidy_by_words(index, state, lot):
    """Returns whether a lot is tidy, as [60] says."""
    keys = keys_by_words(lot)
    if bool(inner_by_words(lot)) != (len(keys) > index.room) or depth_by_words(lot) > limit_by_words(len(keys)):
        return False
    return not keys or fits_by_words(index, state, lot) == lot


def anew_by_words(index, state, lot):
    """Returns the lot with region and summary, or built anew if too many lots lie one in another in it."""
    keys = tuple(sorted(keys_by_words(lot)))
    if depth_by_words(lot) > limit_by_words(len(keys)):
        ANEW.append(len(keys))
        return built_lot(state, keys, index.kind, index.form, room=index.room)
    return fits_by_words(index, state, lot)


def goes_by_words(index, lots, vector):
    """Returns the index of the lot to which a vector goes, as [61] says."""
    best = 0
    for at, lot in enumerate(lots):
        numbers = [(floor_of(index.kind, one[0], vector), len(keys_by_words(one))) for one in (lot, lots[best])]
        if numbers[0] < numbers[1]:
            best = at
    return best


def put_by_words(index, state, lot, item):
    """Returns the lot with an item more, for the state with it, as [62] says."""
    inner = inner_by_words(lot)
    if inner:
        at = goes_by_words(index, inner, item[1])
        inner[at] = put_by_words(index, state, inner[at], item)
        return anew_by_words(index, state, (lot[0], lot[1], ("lots", tuple(inner))))
    keys = tuple(sorted(lot[2][1] + (item[0],)))
    lot = fits_by_words(index, state, (lot[0], lot[1], ("items", keys)))
    if len(keys) <= index.room:
        return lot
    if index.form != "cells":
        return built_lot(state, keys, index.kind, index.form, room=index.room)
    rings = rings_of(index.kind, lot[0][1], tuple(state[key][1] for key in keys))
    parts = [(lot[0], None, ("items", tuple(sorted(keys[at] for at in ring)))) for ring in rings]
    return lot[:2] + (("lots", tuple(fits_by_words(index, state, part) for part in parts)),)


def taken_by_words(index, state, lot, key):
    """Returns the lot without a key that it has, for the state without it, as [63] says; `None` if no item is left."""
    keys = keys_by_words(lot) - {key}
    if not keys:
        return None
    if len(keys) <= index.room:
        return fits_by_words(index, state, (lot[0], None, ("items", tuple(sorted(keys)))))
    lots = []
    for inner in inner_by_words(lot):
        own = taken_by_words(index, state, inner, key) if key in keys_by_words(inner) else inner
        lots += [own] if own is not None else []
    if len(lots) == 1:
        return lots[0]
    return anew_by_words(index, state, (lot[0], None, ("lots", tuple(lots))))


def after_take_by_words(index, state, key):
    """Returns the lot of all items that a take leaves."""
    if key not in state:
        return index.lot
    lot = taken_by_words(index, done(state, ("take", key)), index.lot, key)
    return (EMPTY_REGIONS[index.form], (0, ()), ("items", ())) if lot is None else lot


def after_put_by_words(index, state, item):
    """Returns the lot of all items that a put leaves."""
    lot = after_take_by_words(index, state, item[0])
    state = done(state, ("take", item[0]))
    left = done(state, ("put", item))
    if not state:
        return built(left, index.kind, index.form, room=index.room).lot
    return put_by_words(index, left, lot, item)


def some_item(draw, key, places, far=4):
    """Returns a random item with a key."""
    return key, some_vector(draw, places, far), some_labels(draw)


def some_deed(draw, places, keys, far=4):
    """Returns a random deed about one of so many keys."""
    key = draw.randrange(keys)
    return draw.choice((("put", some_item(draw, key, places, far)), ("take", key)))


def example():
    """Returns the index and the state of the document's example, before the take."""
    index, state = with_item(built({}, "sum", "boxes", room=1), {}, (4, (0, 0), ()))
    return with_item(index, state, (9, (2, 1), ()))


def chain(many):
    """Returns an index in which as many lots lie one in another as it has items, and its state."""
    state = {key: (key, (key,), ()) for key in range(many)}
    single = [(("box", (key,), (key,)), (1, ()), ("items", (key,))) for key in range(many)]
    lot = single[-1]
    for key in range(many - 2, -1, -1):
        lot = (("box", (key,), (many - 1,)), (many - key, ()), ("lots", (single[key], lot)))
    return Index("sum", "boxes", lot, 1), state


class TidyTest(Case):

    def test_limits(self):
        self.same([depth_limit(count) for count in (0, 1, 2, 3, 4, 5, 8, 9, 16, 17, 400)],
                  [3, 3, 5, 7, 7, 9, 9, 11, 11, 13, 21])
        self.same(depth_limit(count=9), 11)

    def test_what_is_built_is_tidy(self):
        draw = random.Random(60)
        for _ in range(120):
            kind, form = draw.choice(KINDS), draw.choice(FORMS)
            state = some_state(draw, draw.randint(0, 14), draw.randint(1, 3), draw.choice((1, 5)))
            index = built(state, kind, form, room=draw.randint(1, 4))
            self.assertIs(is_tidy(index, state), True)
            self.assertIsNone(tidy_fault(index, state))

    def test_any_value(self):
        index, state = example()
        self.assertIs(is_tidy(value=index, state=shuffled(random.Random(1), state)), True)
        for odd in odd_values() + [index.lot, 1, (), Index("sum", "boxes", None, 1), Index("sum", "boxes", index.lot, 0),
                                   Index("sums", "boxes", index.lot, 1), Index("sum", "balls", index.lot, 1)]:
            self.assertIs(is_tidy(odd, state), False)
        self.assertIs(is_tidy(index, {4: state[4]}), False)
        # Sound, but it has two lots for two items, though there is room for them in one.
        roomy = Index("sum", "boxes", index.lot, 2)
        self.assertIs(is_sound(roomy, state), True)
        self.assertIs(is_tidy(roomy, state), False)
        self.same(tidy_fault(index=roomy, state=state), 0)

    def test_regions_that_do_not_just_fit(self):
        index, state = example()
        whole, one, other = lots_by_words(index.lot)
        wide = ("box", (0, 0), (2, 2))
        self.same(tidy_fault(Index("sum", "boxes", (wide,) + whole[1:], 1), state), 0)
        lots = ("lots", (one, (wide,) + other[1:]))
        self.same(tidy_fault(Index("sum", "boxes", whole[:2] + (lots,), 1), state), 2)
        one = {1: (1, (5,), ())}
        for region, wanted in ((("cell", (9,), 4, 4), None), (("cell", (9,), 0, 4), 0), (("cell", (5,), 0, 0), None),
                               (("cell", (5,), 0, 1), 0)):
            self.assertEqual(tidy_fault(Index("sum", "cells", (region, (1, ()), ("items", (1,))), 1), one), wanted)
        for region, wanted in ((("ball", (5,), 0), None), (("ball", (5,), 1), 0), (("ball", (4,), 1), 0)):
            self.assertEqual(tidy_fault(Index("sum", "balls", (region, (1, ()), ("items", (1,))), 1), one), wanted)
        for form in FORMS:
            self.assertIs(is_tidy(Index("sum", form, (EMPTY_REGIONS[form], (0, ()), ("items", ())), 7), {}), True)

    def test_lots_that_lie_too_deep(self):
        # With 9 items at most 11 lots may lie one in another, with 10 to 16 as well, with 12 there are 12.
        for many, wanted in ((9, None), (11, None), (12, 0), (13, 0), (16, 0)):
            index, state = chain(many)
            self.assertIsNone(index_fault(index, state))
            self.assertEqual(tidy_fault(index, state), wanted)

    def test_by_the_words(self):
        draw = random.Random(61)
        found_tidy = 0
        for _ in range(400):
            kind, form = draw.choice(KINDS), draw.choice(FORMS)
            state = some_state(draw, draw.randint(0, 7), 1)
            index = some_index(draw, state, kind, form)
            index = draw.choice((index, Index(kind, form, index.lot, draw.randint(index.room, 9))))
            lots = lots_by_words(index.lot)
            wrong = [at for at, lot in enumerate(lots) if not is_tidy_by_words(index, state, lot)]
            self.assertEqual(self.unchanged(tidy_fault, index, state), min(wrong, default=None))
            self.assertIs(self.unchanged(is_tidy, index, state), not wrong)
            found_tidy += not wrong
        self.assertTrue(50 < found_tidy < 350)


class WayTest(Case):

    def test_places(self):
        index, _ = example()
        lots = (((("box", (0,), (2,)), (2, ()), ("items", (1, 2)))), (("box", (4,), (5,)), (1, ()), ("items", (3,))),
                (("box", (6,), (9,)), (1, ()), ("items", (4,))))
        for integer, at in ((0, 0), (2, 0), (3, 1), (4, 1), (5, 1), (6, 2), (99, 2), (-9, 0)):
            self.same(place_for(index=index, lots=lots, vector=(integer,)), at)
        self.same(place_for(index, (lots[0], lots[0], lots[0]), (1,)), 0)
        self.same(place_for(index, (lots[0], (("box", (1,), (9,)), (1, ()), ("items", (4,)))), (1,)), 1)

    def test_places_by_the_words(self):
        draw = random.Random(62)
        for _ in range(200):
            kind, form = draw.choice(KINDS), draw.choice(FORMS)
            state = some_state(draw, draw.randint(2, 9), 2)
            index = some_index(draw, state, kind, form)
            lots = lots_by_words(index.lot)
            lots = tuple(draw.sample(lots, draw.randint(1, min(3, len(lots)))))
            vector = some_vector(draw, 2, 6)
            self.same(self.unchanged(place_for, index, lots, vector), goes_by_words(index, lots, vector))

    def test_holding_lots(self):
        index, state = example()
        whole, one, other = lots_by_words(index.lot)
        self.same(holding_lots(index, 4), (whole, one))
        self.same(holding_lots(index=index, key=9), (whole, other))
        self.same(holding_lots(index, 5), ())
        self.same(holding_lots(built({}, "sum", "boxes", room=1), 5), ())
        draw = random.Random(63)
        for _ in range(60):
            state = some_state(draw, draw.randint(1, 9), 1)
            index = some_index(draw, state, "most", "balls")
            for key in range(30):
                wanted = tuple(lot for lot in lots_by_words(index.lot) if key in keys_by_words(lot))
                self.same(holding_lots(index, key), wanted)


class ChangeTest(Case):

    def test_the_example(self):
        index, state = example()
        self.same((index.lot[0], [lot[2] for lot in index.lot[2][1]]),
                  (("box", (0, 0), (2, 1)), [("items", (4,)), ("items", (9,))]))
        index, state = without_key(index, state, 4)
        self.same(index.lot, (("box", (2, 1), (2, 1)), (1, ()), ("items", (9,))))
        self.assertIs(is_tidy(index, state), True)
        self.same(depth_limit(9), 11)

    def test_a_put_in_an_index_without_items(self):
        item = (7, (3, 4), (("red", 1),))
        for kind in KINDS:
            for form in FORMS:
                for room in (1, 400):
                    empty = built({}, kind, form, room=room)
                    index, state = self.unchanged(with_item, empty, {}, item)
                    self.assertEqual(state, {7: item})
                    self.assertTrue(index == built({7: item}, kind, form, room=room))
                    # The item is put again, or replaced by another one with its key.
                    for other in (item, (7, (9, 9), ())):
                        more, left = with_item(index=index, state=state, item=other)
                        self.assertEqual(left, {7: other})
                        self.assertTrue(more == built({7: other}, kind, form, room=room))
                    # The last item is taken.
                    less, left = self.unchanged(without_key, index, state, 7)
                    self.assertEqual(left, {})
                    self.assertTrue(less == empty)

    def test_a_take_of_a_key_that_is_not_there(self):
        for index, state in (example(), (built({}, "sum", "cells", room=2), {})):
            less, left = self.unchanged(without_key, index=index, state=state, key=5)
            self.assertTrue(less == index)
            self.assertEqual(left, state)
            left[1] = None
            self.assertNotIn(1, state)

    def test_a_cell_keeps_its_centre(self):
        index, state = built({1: (1, (0,), ())}, "sum", "cells", room=2), {1: (1, (0,), ())}
        index, state = with_item(index, state, (2, (5,), ()))
        self.same(index.lot, (("cell", (0,), 0, 5), (2, ()), ("items", (1, 2))))
        index, state = with_item(index, state, (3, (3,), ()))
        self.same(index.lot, (("cell", (0,), 0, 5), (3, ()), ("lots", (
            (("cell", (0,), 0, 3), (2, ()), ("items", (1, 3))), (("cell", (0,), 5, 5), (1, ()), ("items", (2,)))))))
        index, state = without_key(index, state, 1)
        self.same(index.lot, (("cell", (0,), 3, 5), (2, ()), ("items", (2, 3))))

    def test_a_single_lot_takes_the_place_of_the_one_around(self):
        state = {key: (key, (integer,), ()) for key, integer in enumerate((0, 1, 50, 51, 52))}
        index = built(state, "sum", "boxes", room=2)
        self.same([lot[2] for lot in index.lot[2][1]][1], ("items", (3, 4)))
        index, state = without_key(index, state, 3)
        index, state = without_key(index, state, 4)
        # Three items are left, of which two lie in one lot and one in another.
        self.same([lot[2] for lot in index.lot[2][1]], [("items", (0, 1)), ("items", (2,))])
        index, state = without_key(index, state, 1)
        self.same(index.lot, (("box", (0,), (50,)), (2, ()), ("items", (0, 2))))

    def test_deeds_by_the_words(self):
        draw = random.Random(64)
        for _ in range(60):
            kind, form, places = draw.choice(KINDS), draw.choice(FORMS), draw.randint(1, 2)
            room, keys, far = draw.randint(1, 4), draw.randint(1, 30), draw.choice((1, 5, 50))
            state = some_state(draw, draw.choice((0, 0, 5, 20)), places, far)
            index = built(state, kind, form, room=room)
            for _ in range(draw.randint(1, 50)):
                deed = some_deed(draw, places, keys, far)
                if deed[0] == "put":
                    wanted = after_put_by_words(index, state, deed[1])
                    more, left = self.unchanged(with_item, index, state, deed[1])
                else:
                    wanted = after_take_by_words(index, state, deed[1])
                    more, left = self.unchanged(without_key, index, state, deed[1])
                self.assertEqual(left, done(state, deed))
                self.same(more.lot, wanted)
                self.assertEqual((more.kind, more.form, more.room), (kind, form, room))
                again = self.unchanged(after_deed, index, state, deed)
                self.assertTrue(again[0] == more and again[1] == left)
                self.assertTrue(all(is_tidy_by_words(more, left, lot) for lot in lots_by_words(more.lot)))
                index, state = more, left
            self.assertIs(is_tidy(index, state), True)

    def test_what_is_built_anew_by_puts(self):
        """Items in a row make lots lie deeper and deeper in one another, until some are built anew."""
        for form in FORMS:
            for room in (1, 2):
                index, state = built({}, "sum", form, room=room), {}
                ANEW.clear()
                for key in range(60):
                    item = (key, (key * key,), ())
                    wanted = after_put_by_words(index, state, item)
                    index, state = with_item(index, state, item)
                    self.same(index.lot, wanted)
                    self.assertIs(is_tidy(index, state), True)
                self.assertGreater(len(ANEW), 1, (form, room))

    def test_what_is_built_anew_by_a_take(self):
        """The fewer items there are, the less deep their lots may lie in one another: with 17 items 13, with 16 11."""
        index, state = chain(11)
        side = {key: (key, (1000 + key,), ()) for key in range(100, 106)}
        lots = index.lot, built(side, "sum", "boxes", room=1).lot
        both = {**state, **side}
        index = Index("sum", "boxes", (("box", (0,), (1105,)), (17, ()), ("lots", lots)), 1)
        self.assertIs(is_tidy(index, both), True)
        self.same(depth_by_words(index.lot), 12)
        for key in side:
            more, left = without_key(index, both, key)
            self.assertTrue(more == rebuilt(index, left))
            # A put in place of an item takes it first.
            more, left = with_item(index, both, (key, (5,), ()))
            self.same(more.lot, after_put_by_words(index, both, (key, (5,), ())))
        # Without the chain's last item just 11 lots lie one in another.
        more, left = without_key(index, both, 10)
        self.same(more.lot, after_take_by_words(index, both, 10))
        self.assertEqual(depth_by_words(more.lot), 11)

    def test_all_other_lots_are_as_before(self):
        draw = random.Random(65)
        for _ in range(60):
            state = some_state(draw, 30, 2, 50)
            index = built(state, "square", draw.choice(FORMS), room=3)
            key = draw.choice(sorted(state))
            more, _ = without_key(index, state, key)
            after = lots_by_words(more.lot)
            # Lots of at most room items and one, the taken one among them, are joined.
            holding = holding_lots(index, key)
            joined = [one for lot in holding if len(keys_by_words(lot)) <= 4 for one in lots_by_words(lot)]
            self.assertTrue(all(lot in after or lot in holding or lot in joined for lot in lots_by_words(index.lot)))
            item = (999, some_vector(draw, 2, 50), ())
            path, lot = (), index.lot
            way = [lot]
            while inner_by_words(lot):
                path += (place_for(index, inner_by_words(lot), item[1]),)
                lot = lot_at(index, path)
                way.append(lot)
            more, _ = with_item(index, state, item)
            after = lots_by_words(more.lot)
            self.assertTrue(all(lot in after or lot in way for lot in lots_by_words(index.lot)))
            self.assertEqual(path_of(more, 999)[:len(path)], path)


class DeedsTest(Case):

    def test_after_deeds(self):
        draw = random.Random(66)
        for _ in range(60):
            kind, form, places = draw.choice(KINDS), draw.choice(FORMS), draw.randint(1, 2)
            state = some_state(draw, draw.randint(0, 12), places)
            index = built(state, kind, form, room=draw.randint(1, 3))
            deeds = tuple(some_deed(draw, places, 20) for _ in range(draw.randint(0, 12)))
            more, left = self.unchanged(after_deeds, index, state, deeds)
            self.assertEqual(left, done_all(state, deeds))
            self.assertIs(is_tidy(more, left), True)
            self.assertEqual((more.kind, more.form, more.room), (kind, form, index.room))
            one, single = index, state
            for deed in deeds:
                one, single = after_deed(index=one, state=single, deed=deed)
            self.assertTrue(one == more and single == left)
            sieve, vector = some_filter(draw, 2), some_vector(draw, places)
            self.same(found(more, left, (kind, vector, 3, sieve))[0],
                      tuple(pairs_by_words(left, kind, vector, sieve)[:3]))
            again = rebuilt(more, left)
            self.same(found(again, left, (kind, vector, 3, sieve))[0], found(more, left, (kind, vector, 3, sieve))[0])

    def test_no_deeds(self):
        index, state = example()
        more, left = after_deeds(index=index, state=state, deeds=())
        self.assertTrue(more == index)
        self.assertEqual(left, state)
        left.clear()
        self.assertEqual(len(state), 2)

    def test_rebuilt(self):
        index, state = example()
        for other in (state, {}, {1: (1, (5, 5), ())}):
            self.assertTrue(self.unchanged(rebuilt, index, other) == built(other, "sum", "boxes", room=1))
        self.assertTrue(rebuilt(index=index, state={}) == built({}, "sum", "boxes", room=1))

    def test_just_as_many_deeds_as_may_be(self):
        state = {key: (key, (key * key,), ()) for key in range(8)}
        index = after_deeds(built({}, "sum", "boxes", room=1), {}, tuple(("put", item) for item in state.values()))[0]
        self.assertFalse(index == rebuilt(index, state))
        for many, is_anew in ((0, False), (3, False), (4, False), (5, True)):
            other = dict(state)
            for key in range(many):
                other[key] = (key, (key * key,), (("red", 1),))
            wanted = after_deeds(index, state, deeds_between(state, other))[0]
            self.assertFalse(wanted == rebuilt(index, other))
            self.assertTrue(changed_into(index, state, other) == (rebuilt(index, other) if is_anew else wanted))
        # Without items there may be no deeds.
        self.assertTrue(changed_into(index=index, state=state, other={}) == rebuilt(index, {}))
        empty = built({}, "sum", "boxes", room=1)
        self.assertTrue(changed_into(empty, {}, {}) == empty)

    def test_changed_into(self):
        draw = random.Random(67)
        for _ in range(100):
            kind, form = draw.choice(KINDS), draw.choice(FORMS)
            state = some_state(draw, draw.randint(0, 15), 1)
            index = built(state, kind, form, room=draw.randint(1, 3))
            index, state = after_deeds(index, state, tuple(some_deed(draw, 1, 20) for _ in range(9)))
            other = done_all(state, tuple(some_deed(draw, 1, 20) for _ in range(draw.randint(0, 12))))
            more = self.unchanged(changed_into, index, state, other)
            self.assertIs(is_tidy(more, other), True)
            deeds = deeds_between(state, other)
            wanted = rebuilt(index, other) if 2 * len(deeds) > len(other) else after_deeds(index, state, deeds)[0]
            self.assertTrue(more == wanted)

    def test_400_items(self):
        draw = random.Random(68)
        for form in FORMS:
            state = some_state(draw, 400, 3, 10 ** 4)
            index = built(state, "square", form, room=8)
            keys = sorted(state)
            deeds = tuple(("take", key) for key in keys[:30]) + tuple(
                ("put", some_item(draw, key, 3, 10 ** 4)) for key in keys[20:50])
            index, state = after_deeds(index, state, deeds)
            self.assertEqual(len(state), 380)
            self.assertIs(is_tidy(index, state), True)
            self.same(all_keys(index.lot), tuple(sorted(state)))


if __name__ == "__main__":
    unittest.main()
