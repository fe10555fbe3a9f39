"""[6], [7]: vectors."""

import random
import unittest

from helper import Case, odd_values
from nonearer.errors import InvalidVector
from nonearer.vectors import (at_places, bounds_of, check_vector, differences, halves_of, is_vector, middle_of,
                              moved_vector, widest_place)

SOME = ((4, 0), (1, 1), (7, -2), (1, 5))


class CheckTest(Case):

    def test_vectors(self):
        for value in ((), (0,), (-10 ** 4, 10 ** 4), (10 ** 40, 1, 2)):
            self.assertIsNone(check_vector(value, len(value)))
            self.assertIs(is_vector(value, len(value)), True)

    def test_no_tuple_of_so_many(self):
        for value in odd_values() + ["ab", 2, (), (1,), (1, 2, 3), ("a", "b", "c"), [1, 2]]:
            self.refuses(InvalidVector(-1), check_vector, value, 2)
            self.assertIs(is_vector(value, 2), False)
        self.refuses(InvalidVector(-1), check_vector, (1,), 0)

    def test_the_first_item_that_is_no_integer(self):
        for at in range(4):
            for odd in odd_values() + ["1", (1,)]:
                value = (5, -5, 0, 7)[:at] + (odd,) + (1, "x", None)[:3 - at]
                self.refuses(InvalidVector(at), check_vector, value, 4)
                self.assertIs(is_vector(value, 4), False)

    def test_by_name(self):
        self.assertIsNone(check_vector(value=(1,), many=1))
        self.assertTrue(is_vector(value=(1,), many=1))


class PlacesTest(Case):

    def test_differences_and_moves(self):
        self.same(differences((3, -1, 2), (0, 3, 2)), (3, -4, 0))
        self.same(moved_vector((3, -4, 0), (0, 3, 2)), (3, -1, 2))
        self.same(differences(one=(1,), other=(5,)), (-4,))
        self.same(moved_vector(vector=(1,), step=(5,)), (6,))
        self.same(differences((), ()), ())
        self.same(moved_vector((), ()), ())

    def test_a_move_by_the_difference(self):
        draw = random.Random(6)
        for _ in range(50):
            one = tuple(draw.randint(-9, 9) for _ in range(4))
            other = tuple(draw.randint(-9, 9) for _ in range(4))
            self.assertEqual(moved_vector(other, differences(one, other)), one)

    def test_at_places(self):
        self.same(at_places((7, 8, 9), (2, 0)), (9, 7))
        self.same(at_places((7, 8, 9), (0, 1, 2)), (7, 8, 9))
        self.same(at_places(vector=(7, 8, 9), places=()), ())


class SeveralTest(Case):

    def test_the_example(self):
        self.same(bounds_of(SOME), ((1, -2), (7, 5)))
        self.same(middle_of(SOME), (3, 1))
        self.same(widest_place(SOME), 1)
        self.same(halves_of(SOME), ((2, 0), (1, 3)))

    def test_one_vector(self):
        self.same(bounds_of(((4, -3),)), ((4, -3), (4, -3)))
        self.same(middle_of(((4, -3),)), (4, -3))
        self.same(widest_place(((4, -3),)), 0)
        self.same(halves_of(((4, -3),)), ((0,), ()))

    def test_the_middle_is_rounded_down(self):
        self.same(middle_of(((-1, 1), (0, 0))), (-1, 0))
        self.same(middle_of(((-1, -5), (0, -5), (0, -6))), (-1, -6))

    def test_the_first_widest_place(self):
        self.same(widest_place(((0, 0, 0), (1, 4, -4))), 1)
        self.same(widest_place(((0, 0), (0, 0))), 0)

    def test_equal_vectors_are_parted_by_index(self):
        self.same(halves_of(((2, 2),) * 5), ((0, 1, 2), (3, 4)))
        self.same(halves_of(((2, 2),) * 4), ((0, 1), (2, 3)))

    def test_equal_integers_are_parted_by_index_whatever_the_other_places(self):
        self.same(halves_of(((5, 9), (5, 0), (0, 5), (5, 1), (9, 3))), ((2, 0, 1), (3, 4)))
        self.same(halves_of(((0, 9), (0, 3), (9, 9), (9, 1))), ((0, 1), (2, 3)))

    def test_halves_are_all_indices_in_order(self):
        draw = random.Random(7)
        for _ in range(200):
            many = draw.randint(1, 9)
            vectors = tuple((draw.randint(-3, 3), draw.randint(-3, 3)) for _ in range(many))
            first, second = halves_of(vectors)
            place = widest_place(vectors)
            wanted = tuple(sorted(range(many), key=lambda at: (vectors[at][place], at)))
            self.same(first + second, wanted)
            self.assertIn(len(first) - len(second), (0, 1))
            lows, highs = bounds_of(vectors)
            self.assertEqual(highs[place] - lows[place], max(differences(highs, lows)))
            self.assertTrue(all(low <= part <= high for low, part, high in zip(lows, middle_of(vectors), highs)))


if __name__ == "__main__":
    unittest.main()
