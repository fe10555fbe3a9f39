"""[18]: marks."""

import random
import unittest

from helper import Case
from nonearer.lexer import marks_of


class MarksTest(Case):

    def test_words_digits_and_signs(self):
        self.same(marks_of("7: 3 -4, size -1, red 2"), (
            (0, 0, "7"), (0, 1, ":"), (0, 3, "3"), (0, 5, "-"), (0, 6, "4"), (0, 7, ","), (0, 9, "size"),
            (0, 14, "-"), (0, 15, "1"), (0, 16, ","), (0, 18, "red"), (0, 22, "2")))

    def test_nothing(self):
        self.same(marks_of(""), ())
        self.same(marks_of("   "), ())

    def test_runs_are_longest(self):
        self.same(marks_of("ab12c"), ((0, 0, "ab"), (0, 2, "12"), (0, 4, "c")))
        self.same(marks_of("007 00"), ((0, 0, "007"), (0, 4, "00")))
        self.same(marks_of("a b"), ((0, 0, "a"), (0, 2, "b")))
        self.same(marks_of("9" * 4000), ((0, 0, "9" * 4000),))

    def test_capitals_are_single_signs(self):
        self.same(marks_of("aBCd"), ((0, 0, "a"), (0, 1, "B"), (0, 2, "C"), (0, 3, "d")))
        self.same(marks_of("_~@"), ((0, 0, "_"), (0, 1, "~"), (0, 2, "@")))

    def test_at_most(self):
        self.same(marks_of("3<=a<= 5"), ((0, 0, "3"), (0, 1, "<="), (0, 3, "a"), (0, 4, "<="), (0, 7, "5")))
        self.same(marks_of("<<=="), ((0, 0, "<"), (0, 1, "<="), (0, 3, "=")))
        self.same(marks_of("< ="), ((0, 0, "<"), (0, 2, "=")))
        self.same(marks_of("=<"), ((0, 0, "="), (0, 1, "<")))
        self.same(marks_of("<\n="), ((0, 0, "<"), (0, 1, "\n"), (1, 0, "=")))

    def test_a_newline_belongs_to_the_line_that_it_ends(self):
        self.same(marks_of("\n"), ((0, 0, "\n"),))
        self.same(marks_of("a \n\n b"), ((0, 0, "a"), (0, 2, "\n"), (1, 0, "\n"), (2, 1, "b")))
        self.same(marks_of("take 1\n"), ((0, 0, "take"), (0, 5, "1"), (0, 6, "\n")))

    def test_other_whitespace_and_letters_are_signs(self):
        self.same(marks_of("a\tb"), ((0, 0, "a"), (0, 1, "\t"), (0, 2, "b")))
        self.same(marks_of("\r\x0b"), ((0, 0, "\r"), (0, 1, "\x0b")))
        self.same(marks_of("\u00e4\u0663"), ((0, 0, "\u00e4"), (0, 1, "\u0663")))

    def test_marks_stand_where_they_say_and_nothing_else_is_there(self):
        draw = random.Random(18)
        for _ in range(300):
            text = "".join(draw.choice("ab 10<=\n-A(") for _ in range(draw.randint(0, 14)))
            lines = [list(line + "\n") for line in text.split("\n")]
            for line, at, mark in marks_of(text=text):
                self.assertEqual("".join(lines[line][at:at + len(mark)]), mark)
                lines[line][at:at + len(mark)] = " " * len(mark)
            lines[-1].pop()
            self.assertEqual({sign for line in lines for sign in line} - {" "}, set())


if __name__ == "__main__":
    unittest.main()
