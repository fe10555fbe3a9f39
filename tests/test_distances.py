"""[2], [8], [9], [10], [11]: distances."""

import itertools
import random
import unittest

from helper import Case, odd_values
from nonearer.distances import (KINDS, distance, distance_at, first_farthest, first_nearest, gap_of, is_kind, is_within,
                                joined_parts, least_beyond, most_beyond, part_of, place_by, radius_of, reaches)
from nonearer.vectors import moved_vector


def by_words(kind, one, other):
    """Returns the distance of two vectors, as the words of [2] say."""
    sizes = [abs(first - second) for first, second in zip(one, other)]
    if kind == "square":
        return sum(size ** 2 for size in sizes)
    if kind == "sum":
        return sum(sizes)
    if kind == "most":
        return max(sizes)
    return len([size for size in sizes if size > 0])


def some_vectors(draw, many, places, far=4):
    """Returns a tuple of random vectors."""
    return tuple(tuple(draw.randint(-far, far) for _ in range(places)) for _ in range(many))


def is_at_most_roots(one, first, second):
    """Returns whether the root of `one` is at most the roots of two others added, by trying all parts."""
    beyond = one - first - second
    return beyond <= 0 or beyond ** 2 <= 4 * first * second


class KindsTest(Case):

    def test_kinds(self):
        self.same(KINDS, ("square", "sum", "most", "unlike"))
        for kind in KINDS:
            self.assertIs(is_kind(kind), True)
        for value in odd_values() + ["", "Square", "squar", "sum ", ("sum",), 0, KINDS]:
            self.assertIs(is_kind(value), False)
        self.assertIs(is_kind(value="most"), True)


class DistanceTest(Case):

    def test_the_example(self):
        self.same(tuple(distance(kind, (3, -1, 2), (0, 3, 2)) for kind in KINDS), (25, 7, 4, 2))

    def test_by_the_words(self):
        draw = random.Random(8)
        for _ in range(300):
            one, other = some_vectors(draw, 2, draw.randint(1, 5), draw.choice((1, 4, 10 ** 4)))
            for kind in KINDS:
                self.same(distance(kind, one, other), by_words(kind, one, other))

    def test_great_and_equal_vectors(self):
        low, high = (-10 ** 4,) * 8, (10 ** 4,) * 8
        self.same(tuple(distance(kind, low, high) for kind in KINDS), (8 * 4 * 10 ** 8, 16 * 10 ** 4, 2 * 10 ** 4, 8))
        self.same(tuple(distance(kind=kind, one=high, other=high) for kind in KINDS), (0, 0, 0, 0))

    def test_parts(self):
        self.assertEqual([part_of(kind, -3) for kind in KINDS], [9, 3, 3, 1])
        self.assertEqual([part_of(kind, 3) for kind in KINDS], [9, 3, 3, 1])
        self.same(tuple(part_of(kind=kind, difference=0) for kind in KINDS), (0, 0, 0, 0))

    def test_joined_parts(self):
        for parts in ((4, 0, 9), [4, 0, 9]):
            self.assertEqual([joined_parts(kind, parts) for kind in KINDS], [13, 13, 9, 13])
        for parts in ((), []):
            self.same(tuple(joined_parts(kind, parts) for kind in KINDS), (0, 0, 0, 0))
        self.same(joined_parts(kind="most", parts=(0,)), 0)

    def test_at_places(self):
        one, other = (3, -1, 2), (0, 3, 2)
        self.assertEqual([distance_at(kind, one, other, (2, 0)) for kind in KINDS], [9, 3, 3, 1])
        self.assertEqual([distance_at(kind, one, other, (1,)) for kind in KINDS], [16, 4, 4, 1])
        self.same(tuple(distance_at(kind, one, other, ()) for kind in KINDS), (0, 0, 0, 0))
        self.same(distance_at(kind="sum", one=one, other=other, places=(0, 1, 2)), 7)

    def test_distances_join_parts_and_places(self):
        draw = random.Random(9)
        for _ in range(200):
            places = draw.randint(1, 5)
            one, other, step = some_vectors(draw, 3, places)
            mine = tuple(place for place in range(places) if draw.randint(0, 1))
            rest = tuple(place for place in range(places) if place not in mine)
            for kind in KINDS:
                away = distance(kind, one, other)
                self.assertEqual(joined_parts(kind, [part_of(kind, a - b) for a, b in zip(one, other)]), away)
                halves = (distance_at(kind, one, other, mine), distance_at(kind, one, other, rest))
                self.assertEqual(joined_parts(kind, halves), away)
                self.assertLessEqual(max(halves), away)
                self.assertEqual(away == 0, one == other)
                self.assertEqual(distance(kind, other, one), away)
                self.assertEqual(distance(kind, moved_vector(one, step), moved_vector(other, step)), away)


class NearTest(Case):

    def test_within(self):
        one, other = (3, -1, 2), (0, 3, 2)
        for kind in KINDS:
            away = distance(kind, one, other)
            self.assertIs(is_within(kind, one, other, away), True)
            self.assertIs(is_within(kind, one, other, away - 1), False)
            self.assertIs(is_within(kind, one, one, 0), True)
            self.assertIs(is_within(kind=kind, one=one, other=one, reach=-1), False)

    def test_order(self):
        vectors = ((3,), (0,), (-1,), (1,), (0,))
        self.same(place_by("sum", (0,), vectors), (1, 4, 2, 3, 0))
        self.same(place_by("unlike", (0,), vectors), (1, 4, 0, 2, 3))
        self.same(place_by(kind="sum", target=(0,), vectors=()), ())

    def test_first_nearest_and_farthest(self):
        vectors = ((3,), (1,), (-3,), (-1,))
        self.same(first_nearest("sum", (0,), vectors), (1, 1))
        self.same(first_farthest("sum", (0,), vectors), (3, 0))
        self.same(first_nearest(kind="square", target=(9,), vectors=((2,),)), (49, 0))
        self.same(first_farthest(kind="square", target=(9,), vectors=((2,),)), (49, 0))
        self.same(first_farthest("unlike", (3,), vectors), (1, 1))

    def test_radius(self):
        self.same(radius_of("square", (0, 0), ((1, 1), (0, 3), (2, 2))), 9)
        self.same(radius_of("most", (0, 0), ((0, 0),)), 0)
        for kind in KINDS:
            self.same(radius_of(kind=kind, centre=(0, 0), vectors=()), 0)

    def test_by_looking_at_all(self):
        draw = random.Random(10)
        for _ in range(200):
            vectors = some_vectors(draw, draw.randint(1, 8), 2, 2)
            target = some_vectors(draw, 1, 2, 2)[0]
            for kind in KINDS:
                away = [by_words(kind, target, vector) for vector in vectors]
                self.same(first_nearest(kind, target, vectors), (min(away), away.index(min(away))))
                self.same(first_farthest(kind, target, vectors), (max(away), away.index(max(away))))
                self.same(radius_of(kind, target, vectors), max(away))
                wanted = tuple(sorted(range(len(vectors)), key=lambda at: (away[at], at)))
                self.same(place_by(kind, target, vectors), wanted)


class BeyondTest(Case):

    def test_the_examples(self):
        self.same((gap_of("square", 9, 25), gap_of("square", 2, 3), least_beyond("square", 49, 10),
                   most_beyond("square", 2, 8)), (4, 1, 15, 18))
        self.same((reaches("square", 50, 18, 8), reaches("square", 51, 18, 8), reaches("most", 5, 3, 2)),
                  (True, False, True))

    def test_gaps(self):
        for kind in ("sum", "most", "unlike"):
            self.same(gap_of(kind, 3, 10), 7)
            self.same(gap_of(kind, 10, 3), 7)
            self.same(gap_of(kind=kind, one=4, other=4), 0)
        self.same(gap_of("square", 3, 2), 1)
        self.same(gap_of("square", 0, 7), 7)
        self.same(gap_of("square", 7, 7), 0)
        self.same(gap_of("square", 10 ** 40, 4), 10 ** 40 + 4 - 4 * 10 ** 20)

    def test_beyond_a_radius(self):
        for kind in KINDS:
            self.same(least_beyond(kind, 5, 5), 0)
            self.same(least_beyond(kind, 4, 5), 0)
            self.same(least_beyond(kind=kind, from_centre=0, radius=0), 0)
            self.same(least_beyond(kind, 6, 0), 6)
            self.same(most_beyond(kind, 6, 0), 6)
            self.same(most_beyond(kind=kind, from_centre=0, radius=6), 6)
        self.assertEqual([least_beyond(kind, 9, 4) for kind in KINDS], [1, 5, 5, 5])
        self.assertEqual([most_beyond(kind, 9, 4) for kind in KINDS], [25, 13, 13, 13])
        self.same(least_beyond("square", 6, 5), 1)
        self.same(most_beyond("square", 5, 6), 21)

    def test_gaps_bound_distances(self):
        draw = random.Random(11)
        for _ in range(400):
            one, centre, other = some_vectors(draw, 3, draw.randint(1, 3))
            for kind in KINDS:
                near, far = distance(kind, one, centre), distance(kind, centre, other)
                away = distance(kind, one, other)
                self.assertLessEqual(gap_of(kind, near, far), away)
                self.assertLessEqual(away, most_beyond(kind, near, far))
                for radius in (far, far + 1, far + 5):
                    self.assertLessEqual(least_beyond(kind, near, radius), away)
                    self.assertLessEqual(away, most_beyond(kind, near, radius))

    def test_the_gap_of_squares_is_the_least_integer_that_bounds(self):
        for one, other in itertools.product(range(40), repeat=2):
            gap, most = gap_of("square", one, other), most_beyond("square", one, other)
            self.assertTrue(gap >= 0 and is_at_most_roots(max(one, other), min(one, other), gap))
            self.assertFalse(gap > 0 and is_at_most_roots(max(one, other), min(one, other), gap - 1))
            self.assertTrue(is_at_most_roots(most, one, other))
            self.assertFalse(is_at_most_roots(most + 1, one, other))

    def test_what_reaches(self):
        for kind in ("sum", "most", "unlike"):
            for away, radius, reach in itertools.product(range(9), repeat=3):
                self.assertIs(reaches(kind, away, radius, reach), away <= radius + reach)
        self.assertIs(reaches(kind="square", from_centre=4, radius=1, reach=1), True)
        self.assertIs(reaches("square", 5, 1, 1), False)
        self.assertIs(reaches("square", 0, 0, 0), True)
        self.assertIs(reaches("square", 1, 0, 0), False)
        self.assertIs(reaches("square", 7, 0, 7), True)
        self.assertIs(reaches("square", 7, 6, 0), False)
        self.assertIs(reaches("square", (10 ** 20 + 1) ** 2, 10 ** 40, 1), True)
        self.assertIs(reaches("square", (10 ** 20 + 1) ** 2 + 1, 10 ** 40, 1), False)

    def test_reaching_is_a_least_distance_within_reach(self):
        for kind in KINDS:
            for away, radius, reach in itertools.product(range(17), repeat=3):
                self.assertIs(reaches(kind, away, radius, reach), least_beyond(kind, away, radius) <= reach)


if __name__ == "__main__":
    unittest.main()
