"""[28], [29], [30], [31]: regions."""

import itertools
import random
import unittest

from helper import Case, odd_values
from nonearer.distances import KINDS, distance, gap_of, least_beyond, most_beyond
from nonearer.errors import Refused
from nonearer.regions import (ball_of, box_of, ceiling_of, cell_of, floor_of, holds_vector, is_region, region_of)
from nonearer.vectors import bounds_of, middle_of

SOME = ((0, 0), (4, 0), (4, 3))
FORMS = ("balls", "boxes", "cells")


def some_vectors(draw, many, places, far=4):
    """Returns a tuple of random vectors."""
    return tuple(tuple(draw.randint(-far, far) for _ in range(places)) for _ in range(many))


def some_region(draw, places):
    """Returns a random region."""
    one, other = some_vectors(draw, 2, places, 3)
    if draw.randint(0, 2) == 0:
        return ("box",) + bounds_of((one, other))
    numbers = sorted((draw.randint(0, 6), draw.randint(0, 6)))
    return draw.choice((("ball", one, numbers[0]), ("cell", one, numbers[0], numbers[1])))


class IsRegionTest(Case):

    def test_regions(self):
        for value in (("ball", (0, 0), 0), ("ball", (-5, 7), 10 ** 20), ("box", (1, 2), (1, 2)),
                      ("box", (-3, 2), (1, 9)), ("cell", (0, 0), 0, 0), ("cell", (1, 2), 3, 9)):
            self.assertIs(is_region(value, 2), True)
            self.assertIs(is_region(value=value, places=1), False)
            self.assertIs(is_region(value, 3), False)
        for value in (("ball", (), 0), ("box", (), ()), ("cell", (), 0, 0)):
            self.assertIs(is_region(value, 0), True)

    def test_no_regions(self):
        wrong = ["ball", (), ("ball",), ("ball", (0, 0)), ("ball", (0, 0), 1, 2), ("ball", (0, 0), -1),
                 ("ball", (0, 0), None), ("ball", (0, 0), True), ("ball", (0, 0), 1.0), ("ball", (0,), 1),
                 ("ball", [0, 0], 1), ("ball", (0, True), 1), ("ball", 1, (0, 0)), ("Ball", (0, 0), 1),
                 ["ball", (0, 0), 1], ("box",), ("box", (0, 0)), ("box", (0, 0), (1, 1), 2), ("box", (0, 0), (1, -1)),
                 ("box", (2, 0), (1, 1)), ("box", (0, 0), (1,)), ("box", (0,), (1, 1)), ("box", (0, 0), 1),
                 ("box", (0, 0), (1, "a")), ("box", (0, None), (1, 1)), ("box", (0, 0), [1, 1]), ("cell",),
                 ("cell", (0, 0), 1), ("cell", (0, 0), 1, 2, 3), ("cell", (0, 0), 2, 1), ("cell", (0, 0), -1, 1),
                 ("cell", (0, 0), 0, True), ("cell", (0, 0), False, 1), ("cell", (0, 0), 0, None),
                 ("cell", (0, 0), "a", "b"), ("cell", (0,), 0, 1), ("cell", 0, 0, 1), ("balls", (0, 0), 1),
                 ("boxes", (0, 0), (1, 1)), ("cells", (0, 0), 0, 1), ("", (0, 0), (1, 1)),
                 (1, (0, 0), 1), (None, (0, 0), 1), (("ball",), (0, 0), 1)]
        for value in odd_values() + wrong:
            self.assertIs(is_region(value, 2), False)
        for odd in odd_values():
            for value in ((odd, (0, 0), 1), ("ball", odd, 1), ("ball", (0, 0), odd), ("box", odd, (1, 1)),
                          ("box", (0, 0), odd), ("box", (odd, 0), (1, 1)), ("cell", odd, 0, 1),
                          ("cell", (0, 0), odd, 1), ("cell", (0, 0), 0, odd), ("ball", (0, odd), 1)):
                self.assertIs(is_region(value, 2), False)


class HoldsTest(Case):

    def test_balls(self):
        for kind, vector in (("square", (3, 4)), ("sum", (1, 24)), ("most", (-25, 25)), ("unlike", (9, 9))):
            away = distance(kind, (0, 0), vector)
            self.assertIs(holds_vector(kind, ("ball", (0, 0), away), vector), True)
            self.assertIs(holds_vector(kind, ("ball", (0, 0), away - 1), vector), False)
            self.assertIs(holds_vector(kind, ("cell", (0, 0), away, away), vector), True)
            self.assertIs(holds_vector(kind, ("cell", (0, 0), 0, away - 1), vector), False)
            self.assertIs(holds_vector(kind, ("cell", (0, 0), away + 1, away + 5), vector), False)
            self.assertIs(holds_vector(kind, ("cell", (0, 0), away - 1, away + 5), vector), True)

    def test_boxes(self):
        box = ("box", (1, -2), (3, 6))
        for kind in KINDS:
            for vector in ((1, -2), (3, 6), (2, 0), (1, 6)):
                self.assertIs(holds_vector(kind, box, vector), True)
            for vector in ((0, 0), (4, 0), (2, -3), (2, 7)):
                self.assertIs(holds_vector(kind=kind, region=box, vector=vector), False)


class OfVectorsTest(Case):

    def test_the_example(self):
        self.same(region_of("square", "balls", SOME), ("ball", (2, 1), 8))
        self.same(region_of("sum", "cells", SOME), ("cell", (2, 1), 3, 4))
        self.same(region_of("most", "boxes", SOME), ("box", (0, 0), (4, 3)))

    def test_around_any_centre(self):
        self.same(ball_of("sum", (9, 0), SOME), ("ball", (9, 0), 9))
        self.same(cell_of("sum", (9, 0), SOME), ("cell", (9, 0), 5, 9))
        self.same(box_of(SOME), ("box", (0, 0), (4, 3)))
        self.same(ball_of(kind="most", centre=(1, 1), vectors=((1, 1),)), ("ball", (1, 1), 0))
        self.same(cell_of(kind="most", centre=(1, 1), vectors=((1, 1),)), ("cell", (1, 1), 0, 0))
        self.same(box_of(vectors=((1, 1),)), ("box", (1, 1), (1, 1)))

    def test_forms(self):
        for form in odd_values() + ["ball", "box", "", "Boxes", ("balls",), 1]:
            self.refuses(Refused("form"), region_of, "sum", form, SOME)
        self.refuses(Refused("form"), region_of, kind="sum", form="cell", vectors=SOME)

    def test_regions_of_vectors_are_the_least_that_hold_all(self):
        draw = random.Random(29)
        for _ in range(100):
            places = draw.randint(1, 3)
            vectors = some_vectors(draw, draw.randint(1, 5), places)
            centre = some_vectors(draw, 1, places)[0]
            for kind in KINDS:
                away = [distance(kind, centre, vector) for vector in vectors]
                self.same(ball_of(kind, centre, vectors), ("ball", centre, max(away)))
                self.same(cell_of(kind, centre, vectors), ("cell", centre, min(away), max(away)))
                for form in FORMS:
                    region = region_of(kind, form, vectors)
                    self.assertIs(is_region(region, places), True)
                    self.assertTrue(all(holds_vector(kind, region, vector) for vector in vectors))
                self.same(region_of(kind, "balls", vectors), ball_of(kind, middle_of(vectors), vectors))
                self.same(region_of(kind, "cells", vectors), cell_of(kind, middle_of(vectors), vectors))
                self.same(region_of(kind, "boxes", vectors), ("box",) + bounds_of(vectors))


class FloorsTest(Case):

    def test_the_example(self):
        ball, box = ("ball", (0, 0), 25), ("box", (1, 1), (3, 6))
        self.same((floor_of("square", ball, (6, 8)), ceiling_of("square", ball, (6, 8)), floor_of("sum", box, (0, 9)),
                   ceiling_of("most", box, (0, 9))), (25, 225, 4, 8))

    def test_boxes(self):
        box = ("box", (1, -2, 5), (3, 5, 5))
        floors = {"square": 20, "sum": 6, "most": 4, "unlike": 2}
        ceilings = {"square": 137, "sum": 15, "most": 11, "unlike": 2}
        for kind in KINDS:
            self.same(floor_of(kind, box, (-1, -6, 5)), floors[kind])
            self.same(ceiling_of(kind, box, (-1, -6, 5)), ceilings[kind])
            self.same(floor_of(kind=kind, region=box, vector=(2, 0, 5)), 0)
            self.same(ceiling_of(kind, box, (2, 0, 5)), {"square": 26, "sum": 6, "most": 5, "unlike": 2}[kind])
            self.same(floor_of(kind, box, (9, -9, 0)), distance(kind, (9, -9, 0), (3, -2, 5)))
            self.same(ceiling_of(kind=kind, region=box, vector=(9, -9, 0)), distance(kind, (9, -9, 0), (1, 5, 5)))
            self.same(ceiling_of(kind, ("box", (4, 4), (4, 4)), (4, 4)), 0)

    def test_balls(self):
        for kind in ("sum", "most"):
            for away, radius in ((9, 4), (5, 4), (4, 4), (3, 4), (0, 0), (7, 0)):
                ball = ("ball", (0,), radius)
                self.same(floor_of(kind, ball, (away,)), max(away - radius, 0))
                self.same(ceiling_of(kind, ball, (-away,)), away + radius)
        self.same(floor_of("square", ("ball", (0,), 4), (3,)), 1)
        self.same(ceiling_of("square", ("ball", (0,), 4), (3,)), 25)
        self.same(floor_of("square", ("ball", (0, 0), 4), (1, 2)), 1)
        self.same(floor_of("square", ("ball", (0, 0), 5), (1, 2)), 0)
        self.same(floor_of("unlike", ("ball", (0, 0, 0), 1), (1, 2, 3)), 2)

    def test_the_ceiling_of_unlike_is_at_most_the_places(self):
        self.same(ceiling_of("unlike", ("ball", (0, 0, 0), 2), (1, 2, 0)), 3)
        self.same(ceiling_of("unlike", ("ball", (0, 0, 0), 1), (1, 0, 0)), 2)
        self.same(ceiling_of("unlike", ("cell", (0, 0, 0), 1, 3), (1, 2, 3)), 3)
        self.same(ceiling_of("unlike", ("ball", (0,), 10 ** 9), (0,)), 1)

    def test_cells(self):
        for kind in ("sum", "most"):
            cell = ("cell", (0,), 3, 5)
            self.assertEqual([floor_of(kind, cell, (at,)) for at in range(8)], [3, 2, 1, 0, 0, 0, 1, 2])
            self.assertEqual([ceiling_of(kind, cell, (at,)) for at in (0, 3, 7)], [5, 8, 12])
        cell = ("cell", (0,), 9, 25)
        self.assertEqual([floor_of("square", cell, (at,)) for at in range(8)], [9, 4, 1, 0, 0, 0, 1, 4])
        self.same(ceiling_of("square", cell, (1,)), 36)
        self.same(floor_of("unlike", ("cell", (0, 0), 2, 2), (0, 0)), 2)
        self.same(floor_of("unlike", ("cell", (0, 0), 2, 2), (0, 1)), 1)
        self.same(floor_of("unlike", ("cell", (0, 0), 0, 0), (1, 1)), 2)
        self.same(floor_of("square", ("cell", (0, 0), 3, 7), (1, 1)), gap_of("square", 3, 2))

    def test_by_the_words(self):
        draw = random.Random(30)
        for _ in range(300):
            places = draw.randint(1, 3)
            region, vector = some_region(draw, places), some_vectors(draw, 1, places)[0]
            for kind in KINDS:
                if region[0] == "box":
                    continue
                away = distance(kind, region[1], vector)
                greatest = region[-1]
                wanted = least_beyond(kind, away, greatest)
                if region[0] == "cell" and away < region[2]:
                    wanted = gap_of(kind, region[2], away)
                self.same(floor_of(kind, region, vector), wanted)
                most = most_beyond(kind, away, greatest)
                self.same(ceiling_of(kind, region, vector), min(most, places) if kind == "unlike" else most)

    def test_no_held_vector_is_nearer_or_farther_and_in_a_box_one_is_as_near_and_far(self):
        draw = random.Random(31)
        for _ in range(60):
            places = draw.randint(1, 2)
            region, vector = some_region(draw, places), some_vectors(draw, 1, places)[0]
            for kind in KINDS:
                floor, ceiling = floor_of(kind, region, vector), ceiling_of(kind, region, vector)
                self.assertGreaterEqual(floor, 0)
                held = [one for one in itertools.product(range(-10, 11), repeat=places)
                        if holds_vector(kind, region, one)]
                away = [distance(kind, one, vector) for one in held]
                self.assertTrue(all(floor <= one <= ceiling for one in away))
                if region[0] == "box":
                    self.assertEqual((min(away), max(away)), (floor, ceiling))


if __name__ == "__main__":
    unittest.main()
