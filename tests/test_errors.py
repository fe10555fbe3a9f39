"""[5]: the errors."""

import unittest

from helper import Awkward, Case
from nonearer import errors
from nonearer.errors import (Broken, InvalidFilter, InvalidItem, InvalidNumber, InvalidPaper, InvalidQuestion,
                             InvalidText, InvalidVector, Refused, StoreError)

WITH_AT = (InvalidVector, InvalidItem, InvalidFilter, InvalidQuestion, InvalidPaper)
WITH_WORD = (InvalidNumber, Refused, Broken)
DIRECT = WITH_AT + WITH_WORD + (InvalidText,)


class ErrorsTest(Case):

    def test_there_are_nine_and_their_base(self):
        self.assertEqual(len(set(DIRECT)), 9)
        self.assertEqual(StoreError.__bases__, (ValueError,))
        for error in DIRECT:
            self.assertEqual(error.__bases__, (StoreError,))
            self.assertEqual(error.__module__, "nonearer.errors")

    def test_there_are_no_others(self):
        found = {value for value in vars(errors).values() if isinstance(value, type)}
        self.assertEqual(found, set(DIRECT) | {StoreError})

    def test_attributes_by_position_and_by_name(self):
        for error in WITH_AT:
            self.assertEqual(vars(error(4)), {"at": 4})
            self.assertEqual(vars(error(at=-1)), {"at": -1})
        for error in WITH_WORD:
            self.assertEqual(vars(error("part")), {"word": "part"})
            self.assertEqual(vars(error(word="size")), {"word": "size"})
        self.assertEqual(vars(InvalidText(3, 7)), {"line": 3, "at": 7})
        self.assertEqual(vars(InvalidText(at=7, line=3)), {"line": 3, "at": 7})

    def test_any_values(self):
        for value in (None, (), [1], Awkward(), "", 2.5):
            for error in WITH_AT:
                self.assertIs(error(value).at, value)
            for error in WITH_WORD:
                self.assertIs(error(value).word, value)
            self.assertIs(InvalidText(value, None).line, value)
            self.assertIs(InvalidText(None, value).at, value)

    def test_the_number_of_arguments(self):
        for error in WITH_AT + WITH_WORD:
            self.assertRaises(TypeError, error)
            self.assertRaises(TypeError, error, 1, 2)
        self.assertRaises(TypeError, InvalidText, 1)

    def test_they_are_caught_by_their_base(self):
        for error in (InvalidText(0, 0), Broken("log"), Refused("size"), InvalidItem(2)):
            try:
                raise error
            except StoreError as caught:
                self.assertIs(caught, error)


if __name__ == "__main__":
    unittest.main()
