"""[3], [13]: filters."""

import random
import unittest

from helper import Case, odd_values
from nonearer.errors import InvalidFilter, Refused
from nonearer.filters import check_filter, filter_names, part_at, passes
from nonearer.items import with_label

ALL = ("all",)
RED = ("has", "red")
RANGE = ("in", "size", -1, 4)
DEEP = ("or", ("and", ("not", RED), RANGE, ALL), ("not", ("not", ("has", "tall"))), RED)
DEEP_PARTS = (DEEP, DEEP[1], ("not", RED), RED, RANGE, ALL, DEEP[2], ("not", ("has", "tall")), ("has", "tall"), RED)

WRONG = ["all", "", (), ("",), ("All",), ("al",), ("none",), (1,), (None,), (("all",),), ["all"], ("all", "red"),
         ("all", ALL), ("has",), ("has", "red", "blue"), ("has", "Red"), ("has", ""), ("has", "abcdefghi"), ("has", 1),
         ("has", None), ("has", ("red",)), ("has", RED), ("in",), ("in", "size"), ("in", "size", 1),
         ("in", "size", 1, 2, 3), ("in", "Size", 1, 2), ("in", 1, 1, 2), ("in", "size", 2, 1), ("in", "size", "a", "b"),
         ("in", "size", 1.0, 2), ("in", "size", 1, True), ("in", "size", False, 1), ("in", "size", None, 1), ("not",),
         ("not", ALL, ALL), ("and",), ("and", ALL), ("or",), ("or", ALL), ("and", ()), ("xor", ALL, ALL),
         ("has", "red "), 5]


def random_filter(draw, deep):
    """Returns a random filter."""
    word = draw.choice(("all", "has", "in", "not", "and", "or") if deep else ("all", "has", "in"))
    if word == "all":
        return ALL
    if word == "has":
        return word, draw.choice("abc")
    if word == "in":
        low = draw.randint(-2, 2)
        return word, draw.choice("abc"), low, low + draw.randint(0, 2)
    many = 1 if word == "not" else draw.randint(2, 3)
    return (word,) + tuple(random_filter(draw, deep - 1) for _ in range(many))


def parts_by_words(sieve):
    """Returns the list of the parts of a filter, as [13] numbers them."""
    inner = sieve[1:] if sieve[0] in ("not", "and", "or") else ()
    return [sieve] + [part for one in inner for part in parts_by_words(one)]


def replaced_part(sieve, number, value):
    """Returns a filter with another value in place of the part with a number."""
    if number == 0:
        return value
    made, number = [sieve[0]], number - 1
    for one in sieve[1:]:
        many = len(parts_by_words(one))
        made.append(replaced_part(one, number, value) if 0 <= number < many else one)
        number -= many
    return tuple(made)


def passes_by_words(sieve, labels):
    """Returns whether an item with a dict of labels passes a filter, as [3] says."""
    word = sieve[0]
    if word == "all":
        return True
    if word == "has":
        return sieve[1] in labels
    if word == "in":
        return sieve[1] in labels and labels[sieve[1]] in range(sieve[2], sieve[3] + 1)
    inner = [passes_by_words(part, labels) for part in sieve[1:]]
    return {"not": not inner[0], "and": False not in inner, "or": True in inner}[word]


class CheckTest(Case):

    def test_filters(self):
        for sieve in (ALL, RED, RANGE, ("in", "a", 5, 5), ("not", ALL), ("and", ALL, ALL), ("or", RED, RED, RED), DEEP,
                      ("has", "all"), ("has", "and"), ("in", "in", -10 ** 20, 10 ** 20)):
            self.assertIsNone(check_filter(sieve))
        self.assertIsNone(check_filter(value=ALL))

    def test_no_filters(self):
        for value in odd_values() + WRONG:
            self.refuses(InvalidFilter(0), check_filter, value)
        for odd in odd_values():
            self.refuses(InvalidFilter(0), check_filter, (odd,))
            self.refuses(InvalidFilter(0), check_filter, (odd, "red"))
            self.refuses(InvalidFilter(0), check_filter, ("has", odd))
            self.refuses(InvalidFilter(0), check_filter, ("in", odd, 1, 2))
            self.refuses(InvalidFilter(0), check_filter, ("in", "a", odd, 2))
            self.refuses(InvalidFilter(0), check_filter, ("in", "a", 1, odd))
            self.refuses(InvalidFilter(1), check_filter, ("not", odd))

    def test_the_number_of_the_part(self):
        for wrong in odd_values() + WRONG:
            for number in range(len(DEEP_PARTS)):
                self.refuses(InvalidFilter(number), check_filter, replaced_part(DEEP, number, wrong))

    def test_the_first_wrong_part_is_named(self):
        self.refuses(InvalidFilter(2), check_filter, ("and", RED, None, None))
        self.refuses(InvalidFilter(3), check_filter, ("and", ("or", RED, None), None))
        self.refuses(InvalidFilter(1), check_filter, ("and", ("or", None), None))
        self.refuses(InvalidFilter(0), check_filter, ("not", RED, None))
        self.refuses(InvalidFilter(0), check_filter, ("and", None))

    def test_a_part_is_wrong_whatever_its_own_filters_are(self):
        self.refuses(InvalidFilter(0), check_filter, ("or", None))
        self.refuses(InvalidFilter(2), check_filter, ("not", ("not", ("not", ("not", None), RED))))

    def test_a_deep_value(self):
        deep, wrong = RED, None
        for _ in range(20000):
            deep, wrong = ("not", deep), ("not", wrong)
        self.assertIsNone(check_filter(deep))
        self.refuses(InvalidFilter(20000), check_filter, wrong)
        while wrong is not None:
            deep, wrong = deep[1], wrong[1]


class PartsTest(Case):

    def test_parts(self):
        for number, part in enumerate(DEEP_PARTS):
            self.same(part_at(DEEP, number), part)
        self.same(part_at(sieve=RED, number=0), RED)

    def test_no_part(self):
        for number in odd_values() + [-1, len(DEEP_PARTS), 10 ** 20, "0", (0,)]:
            self.refuses(Refused("part"), part_at, DEEP, number)
        for number in odd_values() + [1, -1]:
            self.refuses(Refused("part"), part_at, ALL, number)

    def test_names(self):
        self.same(filter_names(DEEP), ("red", "size", "tall"))
        self.same(filter_names(ALL), ())
        self.same(filter_names(sieve=("not", ("and", RED, ("in", "a", 1, 2), RED))), ("a", "red"))

    def test_random_filters_and_wrong_parts(self):
        draw = random.Random(13)
        for _ in range(200):
            sieve = random_filter(draw, 3)
            parts = parts_by_words(sieve)
            self.assertIsNone(check_filter(sieve))
            self.assertEqual([part_at(sieve, number) for number in range(len(parts))], parts)
            self.refuses(Refused("part"), part_at, sieve, len(parts))
            number = draw.randrange(len(parts))
            wrong = replaced_part(sieve, number, draw.choice(WRONG))
            self.refuses(InvalidFilter(number), check_filter, wrong)


class PassesTest(Case):

    def test_words(self):
        item = (1, (0,), (("red", 3), ("size", 5)))
        for sieve in (ALL, RED, ("in", "size", 5, 5), ("in", "size", 5, 9), ("in", "size", 0, 5), ("not", ("has", "a")),
                      ("and", RED, ("has", "size")), ("or", ("has", "a"), RED), ("not", ("in", "a", -9, 9))):
            self.assertIs(passes(sieve, item), True)
            self.assertIs(passes(("not", sieve), item), False)
        for sieve in (("has", "a"), ("in", "size", 6, 9), ("in", "size", 0, 4), ("in", "a", -9, 9), ("not", ALL),
                      ("and", RED, ("has", "a")), ("and", ("has", "a"), RED), ("or", ("has", "a"), ("not", ALL))):
            self.assertIs(passes(sieve, item), False)
            self.assertIs(passes(sieve=("not", sieve), item=item), True)

    def test_an_item_without_labels(self):
        item = (1, (0,), ())
        self.assertIs(passes(ALL, item), True)
        self.assertIs(passes(RED, item), False)
        self.assertIs(passes(("in", "size", 0, 0), item), False)

    def test_a_label_of_0(self):
        item = (1, (0,), (("a", 0),))
        self.assertIs(passes(("has", "a"), item), True)
        self.assertIs(passes(("in", "a", 0, 0), item), True)

    def test_more_than_two_filters(self):
        item = (1, (0,), (("a", 0),))
        a, b = ("has", "a"), ("has", "b")
        self.assertIs(passes(("and", a, a, b), item), False)
        self.assertIs(passes(("and", a, a, ALL), item), True)
        self.assertIs(passes(("or", b, b, a), item), True)
        self.assertIs(passes(("or", b, b, b), item), False)

    def test_a_deep_filter(self):
        sieve = RED
        for _ in range(40):
            sieve = ("not", ("and", sieve, ALL))
        self.assertIs(passes(sieve, (1, (0,), (("red", 1),))), True)
        self.assertIs(passes(sieve, (1, (0,), ())), False)

    def test_by_the_words_and_only_by_the_names(self):
        draw = random.Random(3)
        for _ in range(400):
            sieve = random_filter(draw, 3)
            labels = {name: draw.randint(-3, 4) for name in "abc" if draw.randint(0, 1)}
            item = (draw.randint(0, 9), (0,), tuple(sorted(labels.items())))
            passed = passes(sieve, item)
            self.assertIs(passed, passes_by_words(sieve, labels))
            for name in {"a", "b", "c", "d"} - set(filter_names(sieve)):
                for value in (None, 0, draw.randint(-3, 3)):
                    self.assertIs(passes(sieve, with_label(item, name, value)), passed)


if __name__ == "__main__":
    unittest.main()
