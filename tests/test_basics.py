"""[1]: integers, numbers, names and lots."""

import unittest

from helper import Case, odd_values
from nonearer.basics import (has_word, is_int, is_lot_of_numbers, is_name, is_number, is_rising, is_tuple_of,
                             is_word_of, lot_of)


class BasicsTest(Case):

    def test_integers_and_numbers(self):
        for value in (0, 1, 10 ** 30):
            self.assertTrue(is_int(value) and is_number(value))
        for value in (-1, -10 ** 30):
            self.assertTrue(is_int(value))
            self.assertFalse(is_number(value))
        for value in odd_values() + ["1", (1,)]:
            self.assertIs(is_int(value), False)
            self.assertIs(is_number(value), False)

    def test_names(self):
        for value in ("a", "z", "if", "none", "abcdefgh"):
            self.assertTrue(is_name(value))
        for value in odd_values() + ["", "abcdefghi", "A", "a1", "a b", "a\n", "\u00e4", ("a",), 3]:
            self.assertIs(is_name(value), False)

    def test_words_of_signs(self):
        self.assertTrue(is_word_of("aab", "ab", 3))
        self.assertFalse(is_word_of("aab", "ab", 2))
        self.assertFalse(is_word_of("aac", "ab", 3))
        self.assertFalse(is_word_of("", "ab", 3))

    def test_tuples(self):
        self.assertTrue(is_tuple_of((), 0) and is_tuple_of((1, "a"), 2))
        self.assertTrue(has_word(("a",)) and has_word(("", 1)))
        for value in odd_values() + ["ab", (1, "a")]:
            self.assertIs(is_tuple_of(value, 1), False)
            self.assertIs(has_word(value), False)
        self.assertIs(has_word(()), False)

    def test_lots(self):
        self.assertTrue(is_rising([]) and is_rising((4,)) and is_rising((1, 4, 9)))
        self.assertFalse(is_rising((1, 1)) or is_rising((2, 1)))
        for value in ((), (0,), (3, 5, 8)):
            self.assertTrue(is_lot_of_numbers(value))
        for value in odd_values() + [(1, 1), (2, 1), (-1,), (True,), (1, "a"), ("a",), "a", 1]:
            self.assertIs(is_lot_of_numbers(value), False)
        self.assertEqual(lot_of([3, 1, 3]), (1, 3))
        self.assertEqual(lot_of([]), ())
        self.assertEqual(lot_of(["c", "a", "d", "b", "aa", "c"]), ("a", "aa", "b", "c", "d"))
        self.assertEqual(lot_of([(2, "a"), (1, "b"), (2, "a")]), ((1, "b"), (2, "a")))


if __name__ == "__main__":
    unittest.main()
