"""[32], [33], [34]: grown and joined regions, regions in regions, regions apart."""

import itertools
import random
import unittest

from helper import KINDS, Case, distance_by_words, some_vector
from nonearer.around import box_around, floor_between, grown, is_inside, joined_region, reach_word
from nonearer.distances import gap_of, least_beyond
from nonearer.errors import Refused
from nonearer.regions import ceiling_of, floor_of, holds_vector, is_region

WORDS = ("ball", "box", "cell")
BALL = ("ball", (0, 0), 25)


def some_region(draw, word, places, far=3, most=6):
    """Returns a random region with a word."""
    one, other = some_vector(draw, places, far), some_vector(draw, places, far)
    if word == "box":
        return word, tuple(map(min, one, other)), tuple(map(max, one, other))
    least, greatest = sorted((draw.randint(0, most), draw.randint(0, most)))
    return (word, one, greatest) if word == "ball" else (word, one, least, greatest)


def held_by(kind, region, places, far=9):
    """Returns the vectors that a region holds, of those with no greater integers."""
    return [one for one in itertools.product(range(-far, far + 1), repeat=places) if holds_vector(kind, region, one)]


class GrownTest(Case):

    def test_the_example(self):
        self.same(floor_between("square", BALL, ("ball", (6, 8), 4)), 9)
        self.same(grown("square", BALL, (3, 5)), ("ball", (0, 0), 34))
        self.same(is_inside("square", ("ball", (1, 0), 16), BALL), True)

    def test_grown(self):
        self.same(grown("square", BALL, (3, 4)), BALL)
        self.same(grown(kind="sum", region=("cell", (0, 0), 3, 5), vector=(1, 0)), ("cell", (0, 0), 1, 5))
        self.same(grown("sum", ("cell", (0, 0), 3, 5), (9, 0)), ("cell", (0, 0), 3, 9))
        self.same(grown("sum", ("cell", (0, 0), 3, 5), (4, 0)), ("cell", (0, 0), 3, 5))
        self.same(grown("sum", ("box", (0, 0), (2, 2)), (-1, 5)), ("box", (-1, 0), (2, 5)))
        self.same(grown("sum", ("box", (0, 0), (2, 2)), (1, 2)), ("box", (0, 0), (2, 2)))

    def test_the_least_region_that_holds_both(self):
        draw = random.Random(32)
        for _ in range(200):
            places = draw.randint(1, 3)
            kind, region, vector = draw.choice(KINDS), some_region(draw, draw.choice(WORDS), places), \
                some_vector(draw, places)
            more = grown(kind, region, vector)
            self.assertTrue(is_region(more, places) and holds_vector(kind, more, vector))
            if region[0] == "box":
                wanted = tuple(map(min, region[1], vector)), tuple(map(max, region[2], vector))
                self.same(more, ("box",) + wanted)
                continue
            away = distance_by_words(kind, region[1], vector)
            least = () if region[0] == "ball" else (min(region[2], away),)
            self.same(more, (region[0], region[1]) + least + (max(region[-1], away),))


class JoinedTest(Case):

    def test_boxes(self):
        self.same(joined_region("sum", ("box", (0, 0), (2, 2)), ("box", (1, -3), (1, 5))), ("box", (0, -3), (2, 5)))

    def test_balls_and_cells(self):
        self.same(joined_region("sum", ("ball", (0,), 2), ("ball", (5,), 1)), ("ball", (0,), 6))
        self.same(joined_region("sum", ("ball", (0,), 9), ("ball", (5,), 1)), ("ball", (0,), 9))
        self.same(joined_region("sum", ("cell", (0,), 2, 3), ("cell", (5,), 0, 1)), ("cell", (0,), 2, 6))
        self.same(joined_region(kind="sum", one=("cell", (0,), 2, 3), other=("cell", (0,), 0, 1)), ("cell", (0,), 0, 3))
        self.same(joined_region("unlike", ("ball", (0, 0), 0), ("ball", (1, 1), 2)), ("ball", (0, 0), 2))

    def test_unlike_forms(self):
        draw = random.Random(33)
        for one, other in itertools.permutations(WORDS, 2):
            self.refuses(Refused("form"), joined_region, "sum", some_region(draw, one, 2), some_region(draw, other, 2))

    def test_by_the_words_and_what_it_holds(self):
        draw = random.Random(34)
        for _ in range(80):
            places, kind, word = draw.randint(1, 2), draw.choice(KINDS), draw.choice(WORDS)
            one, other = some_region(draw, word, places), some_region(draw, word, places)
            joined = joined_region(kind, one, other)
            for vector in held_by(kind, one, places) + held_by(kind, other, places):
                self.assertTrue(holds_vector(kind, joined, vector))
            if word == "box":
                self.same(joined, ("box", tuple(map(min, one[1], other[1])), tuple(map(max, one[2], other[2]))))
                continue
            greatest = max(one[-1], ceiling_of(kind, other, one[1]))
            least = () if word == "ball" else (min(one[2], floor_of(kind, other, one[1])),)
            self.same(joined, (word, one[1]) + least + (greatest,))


class InsideTest(Case):

    def test_boxes_around(self):
        box = ("box", (1, 2), (3, 4))
        for kind in KINDS:
            self.same(box_around(kind, box), box)
            self.same(box_around(kind, ("ball", (1, 2), 0)), ("box", (1, 2), (1, 2)))
            self.same(box_around(kind=kind, region=("cell", (1, 2), 0, 0)), ("box", (1, 2), (1, 2)))
        for radius, most in ((24, 4), (25, 5), (26, 5), (1, 1), (3, 1)):
            self.same(box_around("square", ("ball", (0, 9), radius)), ("box", (-most, 9 - most), (most, 9 + most)))
        for kind in ("sum", "most"):
            self.same(box_around(kind, ("cell", (0, 9), 2, 7)), ("box", (-7, 2), (7, 16)))
        self.assertIsNone(box_around("unlike", ("ball", (0, 9), 1)))
        self.assertIsNone(box_around("unlike", ("cell", (0, 9), 0, 2)))

    def test_just_inside_and_one_too_small(self):
        self.same(is_inside("square", ("ball", (1, 0), 16), ("ball", (0, 0), 24)), False)
        self.same(is_inside("sum", ("ball", (2,), 3), ("ball", (0,), 5)), True)
        self.same(is_inside("sum", ("ball", (2,), 3), ("ball", (0,), 4)), False)
        self.same(is_inside("sum", ("ball", (2,), 3), ("box", (-1,), (5,))), True)
        self.same(is_inside("sum", ("ball", (2,), 3), ("box", (0,), (5,))), False)
        self.same(is_inside("sum", ("ball", (2,), 3), ("box", (-1,), (4,))), False)
        self.same(is_inside("sum", ("box", (3,), (5,)), ("cell", (0,), 3, 5)), True)
        self.same(is_inside("sum", ("box", (3,), (5,)), ("cell", (0,), 4, 5)), False)
        self.same(is_inside("sum", ("box", (3,), (5,)), ("cell", (0,), 3, 4)), False)
        self.same(is_inside(kind="sum", inner=("box", (3,), (5,)), outer=("box", (3,), (5,))), True)
        self.same(is_inside("unlike", ("ball", (0,), 1), ("box", (-99,), (99,))), False)
        self.same(is_inside("unlike", ("ball", (0,), 0), ("box", (0,), (0,))), True)

    def test_by_the_words_and_what_is_held(self):
        draw = random.Random(35)
        found = {True: 0, False: 0}
        for _ in range(400):
            places, kind = draw.randint(1, 2), draw.choice(KINDS)
            inner = some_region(draw, draw.choice(WORDS), places, 1, 3)
            outer = some_region(draw, draw.choice(WORDS), places, 5, 25)
            box = box_around(kind, inner)
            if box is not None:
                for vector in held_by(kind, inner, places, 5):
                    self.assertTrue(holds_vector(kind, box, vector))
            if outer[0] == "box":
                wanted = box is not None and all(low <= own for low, own in zip(outer[1], box[1])) and \
                    all(own <= high for own, high in zip(box[2], outer[2]))
            else:
                wanted = ceiling_of(kind, inner, outer[1]) <= outer[-1]
                if outer[0] == "cell":
                    wanted = wanted and floor_of(kind, inner, outer[1]) >= outer[2]
            self.assertIs(is_inside(kind, inner, outer), wanted)
            found[wanted] += 1
            if wanted:
                self.assertTrue(all(holds_vector(kind, outer, one) for one in held_by(kind, inner, places)))
        self.assertGreater(min(found.values()), 40)


class BetweenTest(Case):

    def test_boxes(self):
        one, other = ("box", (0, 0), (2, 2)), ("box", (5, 1), (6, 1))
        self.assertEqual([floor_between(kind, one, other) for kind in KINDS], [9, 3, 3, 1])
        self.assertEqual([floor_between(kind, other, one) for kind in KINDS], [9, 3, 3, 1])
        self.same(floor_between(kind="sum", one=one, other=one), 0)
        self.same(floor_between("square", one, ("box", (3, 3), (3, 3))), 2)

    def test_balls_and_cells(self):
        self.same(floor_between("sum", ("ball", (0,), 2), ("ball", (9,), 3)), 4)
        self.same(floor_between("sum", ("ball", (0,), 2), ("ball", (9,), 8)), 0)
        self.same(floor_between("sum", ("ball", (9,), 1), ("cell", (0,), 3, 5)), 3)
        self.same(floor_between("sum", ("ball", (0,), 1), ("cell", (0,), 3, 5)), 2)
        self.same(floor_between("sum", ("ball", (4,), 1), ("cell", (0,), 3, 5)), 0)
        self.same(floor_between("square", ("box", (3,), (4,)), ("ball", (0,), 4)), 1)
        self.same(floor_between("square", ("ball", (0,), 4), ("box", (3,), (4,))), 1)

    def test_a_cell_that_holds_nothing(self):
        # Its floor for the other centre is 8, its ceiling 2: so both conditions hold, and the first one counts.
        one = ("cell", (0, 0), 9, 9)
        self.same(floor_between("unlike", one, ("cell", (0, 1), 3, 5)), 3)
        self.same(floor_between("unlike", one, ("cell", (0, 1), 3, 8)), 1)
        self.same(floor_between("unlike", one, ("ball", (0, 1), 5)), 3)

    def test_by_the_words(self):
        draw = random.Random(36)
        for _ in range(3000):
            places, kind = draw.randint(1, 3), draw.choice(KINDS)
            one = some_region(draw, draw.choice(WORDS), places, 5, 9)
            other = some_region(draw, draw.choice(WORDS[::2]), places, 5, 9)
            near, far = floor_of(kind, one, other[1]), ceiling_of(kind, one, other[1])
            wanted = least_beyond(kind, near, other[-1])
            if other[0] == "cell" and near <= other[3]:
                wanted = gap_of(kind, other[2], far) if far < other[2] else 0
            self.same(floor_between(kind, one, other), wanted)
            if one[0] == "box":
                self.same(floor_between(kind, other, one), wanted)

    def test_no_two_held_vectors_are_nearer(self):
        draw = random.Random(37)
        apart = 0
        for _ in range(150):
            places, kind = draw.randint(1, 2), draw.choice(KINDS)
            one, other = [some_region(draw, draw.choice(WORDS), places, 4, 3) for _ in "12"]
            floor = floor_between(kind, one, other)
            apart += floor > 0
            away = [distance_by_words(kind, first, second) for first in held_by(kind, one, places, 5)
                    for second in held_by(kind, other, places, 5)]
            self.assertGreaterEqual(min(away, default=floor), floor)
            if one[0] == other[0] == "box":
                self.assertEqual(min(away), floor)
        self.assertGreater(apart, 30)

    def test_reach_words(self):
        ball, box = ("ball", (0,), 2), ("box", (3,), (5,))
        self.assertEqual([reach_word("sum", ball, (5,), reach) for reach in (-1, 2, 3, 6, 7)],
                         ["out", "out", "some", "some", "in"])
        self.assertEqual([reach_word("sum", box, (4,), reach) for reach in (-1, 0, 1)], ["out", "some", "in"])
        self.same(reach_word(kind="sum", region=("box", (3,), (3,)), vector=(3,), reach=0), "in")


if __name__ == "__main__":
    unittest.main()
