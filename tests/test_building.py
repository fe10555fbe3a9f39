"""[38], [39], [40], [41], and [37] of what is built."""

import random
import unittest
from math import isqrt

from helper import (EMPTY_REGIONS, FORMS, KINDS, Case, distance_by_words, keys_by_words, odd_values, shuffled,
                    some_filter, some_state, some_vector)
from nonearer.building import built, built_lot, cells_of, centres_of, most_depth, most_lots, rings_of
from nonearer.errors import InvalidNumber, Refused
from nonearer.filters import passes
from nonearer.lots import Index, all_lots, depth_of, index_fault, lot_count, path_of
from nonearer.regions import ceiling_of, cell_of, floor_of, region_of
from nonearer.summaries import may_pass, must_pass, summary
from nonearer.vectors import halves_of, middle_of

STATE = {1: (1, (0, 0), ()), 2: (2, (3, 0), ()), 3: (3, (9, 9), (("new", 4),))}


def lot_by_words(state, keys, kind, form, room, centre=None):
    """Returns the lot that is built for keys, as [38] and [40] say; with a centre, a lot within cells."""
    keys = sorted(keys)
    items = tuple(state[key] for key in keys)
    vectors = tuple(item[1] for item in items)
    content = ("items", tuple(keys))
    if form != "cells":
        region = region_of(kind, form, vectors)
        if len(keys) > room:
            content = ("lots", tuple(lot_by_words(state, [keys[at] for at in half], kind, form, room)
                                     for half in halves_of(vectors)))
        return region, summary(items), content
    centres = (centre,)
    if centre is None:
        centres = centres_of(kind, vectors, max(2, isqrt(len(keys))))
    if len(keys) > room and len(centres) > 1:
        content = ("lots", tuple(lot_by_words(state, [keys[at] for at in cell], kind, form, room, own)
                                 for own, cell in zip(centres, cells_of(kind, centres, vectors))))
    elif len(keys) > room:
        content = ("lots", tuple(lot_by_words(state, [keys[at] for at in ring], kind, form, room, centres[0])
                                 for ring in rings_of(kind, centres[0], vectors)))
    return cell_of(kind, centres[0], vectors), summary(items), content


class BuiltTest(Case):

    def test_the_example(self):
        index = built(STATE, "sum", "boxes", room=2)
        self.same(index.lot[1], (3, (("new", 1, 4, 4),)))
        self.same(index.lot[2][1][1], (("box", (9, 9), (9, 9)), (1, (("new", 1, 4, 4),)), ("items", (3,))))
        self.same(path_of(index, 2), (0,))
        self.same(centres_of("sum", ((0, 0), (3, 0), (9, 9)), 2), ((3, 0), (9, 9)))
        self.same(index_fault(index, {1: STATE[1], 2: STATE[2]}), ("key", 2))

    def test_no_items_and_one(self):
        for kind in KINDS:
            for form in FORMS:
                index = built({}, kind, form, room=1)
                self.assertTrue(index == Index(kind, form, (EMPTY_REGIONS[form], (0, ()), ("items", ())), 1))
                self.assertIsNone(index_fault(index, {}))
                self.same(built_lot(STATE, (), kind, form, room=1), index.lot)
                index = built({3: STATE[3]}, kind, form, room=1)
                self.same(index.lot[1:], ((1, (("new", 1, 4, 4),)), ("items", (3,))))
                self.same(index.lot[0], region_of(kind, form, ((9, 9),)))

    def test_wrong_values(self):
        for call, args in ((built, (STATE,)), (built_lot, (STATE, (1, 2)))):
            for odd in odd_values() + ["", "Sum", ("sum",), 0]:
                self.refuses(Refused("kind"), call, *args, odd, "boxes", room=1)
                self.refuses(Refused("kind"), call, *args, odd, odd, room=odd)
            for odd in odd_values() + ["", "box", ("boxes",), 0]:
                self.refuses(Refused("form"), call, *args, "sum", odd, room=1)
                self.refuses(Refused("form"), call, *args, "sum", odd, room=0)
            for odd in odd_values() + [0, -1, "1", (1,)]:
                self.refuses(InvalidNumber("room"), call, *args, "sum", "boxes", room=odd)
        self.refuses(InvalidNumber("room"), built, state={}, kind="most", form="cells", room=0)
        self.refuses(Refused("kind"), built_lot, state={}, keys=(), kind="mosts", form="cells", room=1)

    def test_by_the_words(self):
        draw = random.Random(38)
        for _ in range(150):
            kind, form, places = draw.choice(KINDS), draw.choice(FORMS), draw.randint(1, 3)
            count, room = draw.randint(1, 25), draw.randint(1, 6)
            state = some_state(draw, count, places, draw.choice((1, 4, 20)))
            index = self.unchanged(built, state, kind, form, room=room)
            self.assertEqual((index.kind, index.form, index.room), (kind, form, room))
            self.same(index.lot, lot_by_words(state, state, kind, form, room))
            self.assertTrue(built(shuffled(draw, state), kind, form, room=room) == index)
            self.assertIsNone(index_fault(index, state))
            self.assertLessEqual(depth_of(index), most_depth(count, form))
            self.assertLessEqual(lot_count(index), most_lots(count))
            some = tuple(sorted(draw.sample(sorted(state), draw.randint(1, count))))
            lot = self.unchanged(built_lot, state, some, kind, form, room=room)
            self.same(lot, lot_by_words(state, some, kind, form, room))
            self.assertIsNone(index_fault(Index(kind, form, lot, room), {key: state[key] for key in some}))

    def test_equal_vectors(self):
        state = {key: (key, (5, 5), ()) for key in range(9)}
        for kind in KINDS:
            for form in FORMS:
                index = built(state, kind, form, room=1)
                self.assertIsNone(index_fault(index, state))
                self.assertEqual(lot_count(index), 17)
                self.same(index.lot[2][1][0][2][1][0][2][1][0][2][1], tuple(
                    (region_of(kind, form, ((5, 5),)), (1, ()), ("items", (key,))) for key in (0, 1)))

    def test_room_for_all_and_one_more(self):
        for form in FORMS:
            for room, count in ((3, 1), (2, 3), (4, 1), (400, 1)):
                index = built(STATE, "square", form, room=room)
                self.assertEqual(lot_count(index), count, form)
        lot = built(STATE, "square", "cells", room=3).lot
        self.same(lot[0], cell_of("square", (3, 0), ((0, 0), (3, 0), (9, 9))))

    def test_400_items(self):
        draw = random.Random(40)
        state = some_state(draw, 400, 8, 10 ** 4)
        for form in FORMS:
            index = built(state, "square", form, room=8)
            self.assertIsNone(index_fault(index, state))
            self.assertLessEqual(depth_of(index), most_depth(400, form))


class TellTest(Case):

    def test_what_built_lots_tell(self):
        draw = random.Random(37)
        for _ in range(60):
            kind, form, places = draw.choice(KINDS), draw.choice(FORMS), draw.randint(1, 3)
            state = some_state(draw, draw.randint(1, 15), places)
            index = built(state, kind, form, room=draw.randint(1, 4))
            vector, sieve = some_vector(draw, places, 6), some_filter(draw, 3)
            for lot in all_lots(index):
                items = [state[key] for key in keys_by_words(lot)]
                away = [distance_by_words(kind, vector, item[1]) for item in items]
                self.assertLessEqual(floor_of(kind, lot[0], vector), min(away))
                self.assertGreaterEqual(ceiling_of(kind, lot[0], vector), max(away))
                self.assertTrue(may_pass(sieve, lot[1]) or not any(passes(sieve, item) for item in items))
                self.assertTrue(not must_pass(sieve, lot[1]) or all(passes(sieve, item) for item in items))


class CentresTest(Case):

    def test_centres(self):
        self.same(centres_of("sum", ((5,), (5,)), 9), ((5,),))
        self.same(centres_of("sum", ((0,), (10,), (4,)), 1), ((4,),))
        self.same(centres_of(kind="sum", vectors=((0,), (10,), (4,)), many=2), ((4,), (10,)))
        self.same(centres_of("sum", ((0,), (10,), (4,)), 9), ((4,), (10,), (0,)))
        self.same(centres_of("sum", ((1,), (-1,), (0,), (2,), (-2,)), 3), ((0,), (2,), (-2,)))
        self.same(centres_of("sum", ((-1,), (1,)), 2), ((-1,), (1,)))

    def test_cells(self):
        self.same(cells_of("sum", ((0,), (10,)), ((5,), (6,), (4,), (10,))), ((0, 2), (1, 3)))
        self.same(cells_of(kind="sum", centres=((0,), (10,)), vectors=()), ((), ()))
        self.same(cells_of("sum", ((0,), (99,)), ((5,),)), ((0,), ()))

    def test_rings(self):
        self.same(rings_of("sum", (0,), ((5,), (-1,), (3,))), ((1, 2), (0,)))
        self.same(rings_of(kind="sum", centre=(0,), vectors=((5,), (-5,), (5,), (1,))), ((3, 0), (1, 2)))
        self.same(rings_of("sum", (0,), ((5,),)), ((0,), ()))

    def test_by_the_words(self):
        draw = random.Random(39)
        for _ in range(200):
            kind, places, many = draw.choice(KINDS), draw.randint(1, 3), draw.randint(1, 6)
            vectors = tuple(some_vector(draw, places, 3) for _ in range(draw.randint(1, 9)))
            middle = middle_of(vectors)
            wanted = [min(vectors, key=lambda one: distance_by_words(kind, middle, one))]
            while len(wanted) < many and set(vectors) - set(wanted):
                away = [min(distance_by_words(kind, own, one) for own in wanted) for one in vectors]
                wanted.append(vectors[away.index(max(away))])
            centres = self.unchanged(centres_of, kind, vectors, many)
            self.same(centres, tuple(wanted))
            cells = self.unchanged(cells_of, kind, centres, vectors)
            own = [min(range(len(centres)), key=lambda at: distance_by_words(kind, centres[at], one))
                   for one in vectors]
            self.same(cells, tuple(tuple(at for at, one in enumerate(own) if one == number)
                                   for number in range(len(centres))))
            if len(centres) < len(set(vectors)):
                far = max(distance_by_words(kind, one, centres[at]) for one, at in zip(vectors, own))
                between = [distance_by_words(kind, one, other) for at, one in enumerate(centres)
                           for other in centres[at + 1:]]
                self.assertTrue(all(far <= one for one in between))
            centre = some_vector(draw, places)
            order = sorted(range(len(vectors)), key=lambda at: (distance_by_words(kind, centre, vectors[at]), at))
            middle = (len(order) + 1) // 2
            self.same(self.unchanged(rings_of, kind, centre, vectors), (tuple(order[:middle]), tuple(order[middle:])))


class SizesTest(Case):

    def test_sizes(self):
        self.same([most_depth(count, "boxes") for count in (0, 1, 2, 3, 4, 5, 8, 9, 400)], [1, 1, 2, 3, 3, 4, 4, 5, 10])
        self.same([most_depth(count, "balls") for count in (0, 1, 2, 3)], [1, 1, 2, 3])
        self.same([most_depth(count=count, form="cells") for count in (0, 1, 2, 3, 5)], [1, 1, 3, 4, 5])
        self.same([most_lots(count) for count in (0, 1, 2, 400)], [1, 1, 3, 799])
        self.same(most_lots(count=10 ** 20), 2 * 10 ** 20 - 1)

    def test_room_for_one(self):
        draw = random.Random(41)
        for count in range(20):
            for form in FORMS:
                state = some_state(draw, count, 1)
                index = built(state, "sum", form, room=1)
                self.assertLessEqual(depth_of(index), most_depth(count, form))
                if form != "cells" and count:
                    self.assertEqual(len(all_lots(index)), most_lots(count))
                    self.assertEqual(depth_of(index), most_depth(count, form))


if __name__ == "__main__":
    unittest.main()
