"""[23]: questions and deeds."""

import unittest

from helper import KINDS, Case, odd_values
from nonearer.errors import InvalidItem, InvalidQuestion, Refused
from nonearer.questions import check_deed, check_question, deed_key

ALL = ("all",)
GOOD = ("sum", (0, -5), 3, ("has", "tall"))
ITEM = (7, (3, -4), (("red", 2),))


def replaced(value, at, other):
    """Returns a tuple with another item at an index."""
    return value[:at] + (other,) + value[at + 1:]


class QuestionTest(Case):

    def test_questions(self):
        for kind in KINDS:
            for sieve in (ALL, ("not", ALL), ("in", "a", 1, 1), ("or", ALL, ("and", ALL, ALL))):
                self.assertIsNone(check_question((kind, (1, 2, 3), 1, sieve), 3))
        self.assertIsNone(check_question(value=GOOD, places=2))
        self.assertIsNone(check_question(("most", (0,), 10 ** 30, ALL), 1))

    def test_no_tuple_of_four(self):
        wrong = [(), GOOD[:3], GOOD + (1,), list(GOOD), "four", 4, (GOOD,)]
        for value in odd_values() + wrong:
            self.refuses(InvalidQuestion(-1), check_question, value, 2)

    def test_the_first_wrong_item(self):
        wrong = [odd_values() + ["", "Sum", "squares", ("sum",), 0],
                 odd_values() + [(), (1,), (1, 2, 3), (1, True), (1, "a"), (1.0, 2), [1, 2], 3, "ab"],
                 odd_values() + [0, -1, -10 ** 20, "1", (1,)],
                 odd_values() + ["all", (), ("has", "A"), ("not",), ("and", ALL), ("not", ("has", 1)), ("in", "a", 2, 1)]]
        for at, values in enumerate(wrong):
            for value in values:
                self.refuses(InvalidQuestion(at), check_question, replaced(GOOD, at, value), 2)
                for later in range(at + 1, 4):
                    both = replaced(replaced(GOOD, at, value), later, None)
                    self.refuses(InvalidQuestion(at), check_question, both, 2)

    def test_the_number_of_places(self):
        self.refuses(InvalidQuestion(1), check_question, GOOD, 1)
        self.refuses(InvalidQuestion(1), check_question, GOOD, 3)

    def test_a_deep_filter(self):
        deep, wrong = ALL, None
        for _ in range(5000):
            deep, wrong = ("not", deep), ("not", wrong)
        self.assertIsNone(check_question(replaced(GOOD, 3, deep), 2))
        self.refuses(InvalidQuestion(3), check_question, replaced(GOOD, 3, wrong), 2)
        while wrong is not None:
            deep, wrong = deep[1], wrong[1]


class DeedTest(Case):

    def test_deeds(self):
        self.assertIsNone(check_deed(("put", ITEM), 2))
        self.assertIsNone(check_deed(("take", 0), 2))
        self.assertIsNone(check_deed(value=("take", 10 ** 20), places=1))

    def test_no_deeds(self):
        wrong = ["put", (), ("put",), ("put", ITEM, 1), ("take",), ("take", 1, 2), ["put", ITEM], ["take", 1], ("Put", ITEM),
                 ("puts", ITEM), ("", ITEM), (1, ITEM), (("put",), ITEM), ("take", -1), ("take", "1"), ("take", (1,)),
                 ("take", ITEM), ("drop", 1), (ITEM, "put")]
        for value in odd_values() + wrong:
            self.refuses(Refused("deed"), check_deed, value, 2)
        for odd in odd_values():
            self.refuses(Refused("deed"), check_deed, (odd, ITEM), 2)
            self.refuses(Refused("deed"), check_deed, (odd, 1), 2)
            self.refuses(Refused("deed"), check_deed, ("take", odd), 2)

    def test_puts_of_no_item(self):
        for value in odd_values() + [(), ITEM[:2], ITEM + (1,), list(ITEM), 4]:
            self.refuses(InvalidItem(-1), check_deed, ("put", value), 2)
        for odd in odd_values():
            for at in range(3):
                self.refuses(InvalidItem(at), check_deed, ("put", replaced(ITEM, at, odd)), 2)
        self.refuses(InvalidItem(0), check_deed, ("put", (-1, (True, 2), ())), 2)
        self.refuses(InvalidItem(1), check_deed, ("put", ITEM), 3)
        self.refuses(InvalidItem(2), check_deed, ("put", (7, (3, -4), (("red", 2), ("red", 3)))), 2)

    def test_keys(self):
        self.same(deed_key(("put", ITEM)), 7)
        self.same(deed_key(deed=("take", 12)), 12)


if __name__ == "__main__":
    unittest.main()
