"""[16]: exact answers."""

import itertools
import random
import time
import unittest

from helper import Case, some_filter, some_labels
from nonearer.deciding import count_choices, parting_labels, passing_labels, possible_labels
from nonearer.errors import Refused
from nonearer.filters import passes
from nonearer.items import check_item
from nonearer.summaries import is_possible, summary

ALL, NOTHING = ("all",), ("not", ("all",))


def ranges(name, many, step=2):
    """Returns a filter with so many ranges of one integer: step 2 for two cuts each, step 1 for one more in all."""
    parts = tuple(("in", name, step * at, step * at) for at in range(many))
    return parts[0] if many == 1 else ("or",) + parts


def choices_by_words(*sieves):
    """Returns the number of choices, as [16] says."""
    cuts, waiting = {}, list(sieves)
    while waiting:
        part = waiting.pop()
        if part[0] == "has":
            cuts.setdefault(part[1], set())
        elif part[0] == "in":
            cuts.setdefault(part[1], set()).update((part[2], part[3] + 1))
        else:
            waiting.extend(part[1:])
    many = 1
    for own in cuts.values():
        many *= len(own) + 2
    return many


def all_labels(names, low=-4, high=7):
    """Returns all labels with these names and integers."""
    return [tuple((name, integer) for name, integer in zip(names, integers) if integer is not None)
            for integers in itertools.product([None] + list(range(low, high + 1)), repeat=len(names))]


def passes_labels(sieve, labels):
    """Returns whether an item with these labels passes."""
    return passes(sieve, (0, (0,), labels))


# Just 20,000 choices, and the next greater number that the tests use.
JUST = ("and", ranges("a", 4), ranges("b", 4), ranges("c", 4), ranges("d", 4), ("has", "e"))
MORE = ("and", ranges("a", 2), ranges("b", 2, 1), ranges("c", 20, 1), ranges("d", 26, 1))


class CountTest(Case):

    def test_counts(self):
        for sieve, many in ((ALL, 1), (NOTHING, 1), (("has", "a"), 2), (("in", "a", 3, 5), 4),
                            (("and", ("in", "a", 3, 5), ("in", "a", 6, 9)), 5), (("and", ("has", "a"), ("has", "a")), 2),
                            (("or", ("in", "a", 3, 5), ("has", "a")), 4),
                            (("or", ("in", "a", 3, 5), ("in", "a", 3, 5)), 4),
                            (("or", ("in", "a", 3, 5), ("not", ("has", "b"))), 8), (JUST, 20000), (MORE, 20010)):
            self.same(self.unchanged(count_choices, sieve), many)
            self.assertEqual(choices_by_words(sieve), many)
        self.same(count_choices(sieve=("has", "a")), 2)

    def test_random_counts(self):
        draw = random.Random(16)
        for _ in range(200):
            sieve = some_filter(draw, 4)
            self.same(count_choices(sieve), choices_by_words(sieve))


class SizeTest(Case):

    def test_more_than_20000_choices(self):
        for told in ((0, ()), (1, ()), (3, (("a", 3, 0, 9),))):
            self.refuses(Refused("size"), possible_labels, MORE, told)
        self.refuses(Refused("size"), passing_labels, MORE)
        self.refuses(Refused("size"), parting_labels, MORE, ALL)
        self.refuses(Refused("size"), parting_labels, ALL, MORE)
        self.refuses(Refused("size"), parting_labels, MORE, MORE)
        self.refuses(Refused("size"), passing_labels, sieve=("or", ALL, MORE))

    def test_both_filters_count_together(self):
        one = ("and", ranges("a", 4), ranges("b", 4), ("has", "e"))
        other = ("and", ranges("c", 4), ranges("d", 4))
        self.assertIsNotNone(parting_labels(one, other))
        self.refuses(Refused("size"), parting_labels, one, ("and", other, ("has", "f")))
        self.refuses(Refused("size"), parting_labels, one, ("and", other, ("in", "a", 100, 100)))

    def test_just_20000_choices(self):
        start = time.perf_counter()
        self.assertTrue(passes_labels(JUST, passing_labels(JUST)))
        self.assertIsNone(passing_labels(("and", JUST, ("not", JUST))))
        self.assertIsNone(parting_labels(JUST, ("and", JUST, JUST)))
        told = (9, tuple((name, 9, -3, 20) for name in "abcde"))
        self.assertTrue(is_possible(possible_labels(JUST, told), told))
        self.assertIsNone(possible_labels(("and", JUST, ("not", JUST)), told))
        self.assertLess(time.perf_counter() - start, 20)

    def test_filters_that_look_unlike_and_mean_the_same(self):
        names = "abcdefghijklmn"
        one = ("and",) + tuple(("has", name) for name in names)
        other = ("not", ("or",) + tuple(("not", ("has", name)) for name in names))
        self.assertEqual(choices_by_words(one, other), 2 ** 14)
        self.assertIsNone(parting_labels(one, other))
        self.assertEqual(len(parting_labels(one, one[:-1])), 13)


class LabelsTest(Case):

    def test_passing(self):
        self.same(passing_labels(ALL), ())
        self.assertIsNone(passing_labels(NOTHING))
        self.assertIsNone(passing_labels(("and", ("has", "a"), ("not", ("has", "a")))))
        self.assertIsNone(passing_labels(("and", ("in", "a", 1, 5), ("in", "a", 6, 9))))
        self.same(passing_labels(("and", ("in", "a", 1, 5), ("in", "a", 5, 9))), (("a", 5),))
        self.same(passing_labels(("and", ("has", "a"), ("not", ("in", "a", -10 ** 9, 10 ** 9 - 1)),
                                  ("not", ("in", "a", 10 ** 9 + 1, 10 ** 9 + 5)), ("in", "a", 0, 10 ** 9 + 3))),
                  (("a", 10 ** 9),))
        self.same(passing_labels(("and", ("has", "b"), ("in", "a", 7, 7)))[0], ("a", 7))
        outside = passing_labels(sieve=("and", ("has", "a"), ("not", ("in", "a", -10 ** 9, 10 ** 9))))
        self.assertGreater(abs(outside[0][1]), 10 ** 9)

    def test_possible(self):
        told = (4, (("a", 2, 3, 9), ("b", 4, 0, 5), ("c", 3, 1, 8)))
        self.assertIsNone(possible_labels(("in", "a", 4, 8), told))
        self.assertIsNone(possible_labels(("not", ("has", "b")), told))
        self.assertIsNone(possible_labels(("has", "d"), told))
        self.assertIsNone(possible_labels(ALL, (0, ())))
        self.assertIsNone(possible_labels(NOTHING, told))
        self.assertEqual(possible_labels(("in", "c", 4, 4), told)[-1], ("c", 4))
        self.same(possible_labels(sieve=("in", "b", 2, 3), told=told)[0][0], "b")
        for sieve in (ALL, ("has", "a"), ("not", ("has", "a")), ("and", ("in", "c", 2, 7), ("in", "a", 9, 20))):
            labels = possible_labels(sieve, told)
            self.assertTrue(is_possible(labels, told) and passes_labels(sieve, labels), sieve)
            self.assertIn("b", [name for name, _ in labels])

    def test_the_least_and_the_greatest_integer_of_two_items(self):
        told = (2, (("a", 2, 0, 9),))
        for low, high, wanted in ((5, 20, (("a", 0),)), (-5, 3, (("a", 9),)), (1, 20, (("a", 0),)), (0, 8, (("a", 9),)),
                                  (0, 9, None), (-5, 20, None)):
            self.same(possible_labels(("not", ("in", "a", low, high)), told), wanted)
        self.same(possible_labels(("not", ("or", ("in", "a", -9, 0), ("in", "a", 9, 9))), (3, (("a", 3, 0, 9),)))[0][0], "a")
        self.assertIsNone(possible_labels(("not", ("or", ("in", "a", -9, 0), ("in", "a", 9, 9))), told))

    def test_parting(self):
        self.assertIsNone(parting_labels(ALL, ALL))
        self.assertIsNone(parting_labels(one=("not", ("not", ("has", "a"))), other=("has", "a")))
        self.same(parting_labels(ALL, NOTHING), ())
        self.same(parting_labels(("has", "a"), ("in", "a", -5, 5))[0][0], "a")
        self.assertIsNone(parting_labels(("in", "a", 1, 5), ("or", ("in", "a", 1, 3), ("in", "a", 4, 5))))
        self.same(parting_labels(("in", "a", 1, 5), ("or", ("in", "a", 1, 3), ("in", "a", 5, 5))), (("a", 4),))

    def check_labels(self, labels):
        self.assertIsNone(check_item((0, (0,), labels), 1))

    def test_random_filters(self):
        draw = random.Random(17)
        every = all_labels("ab")
        found = {True: 0, False: 0}
        for _ in range(300):
            one, other = some_filter(draw, 4, "ab"), some_filter(draw, 4, "ab")
            one = draw.choice((one, ("and", one, ("not", other)), ("and", one, other)))
            labels = self.unchanged(passing_labels, one)
            self.assertEqual(labels is not None, any(passes_labels(one, own) for own in every))
            if labels is not None:
                self.check_labels(labels)
                self.assertTrue(passes_labels(one, labels))
            labels = self.unchanged(parting_labels, one, other)
            parted = [own for own in every if passes_labels(one, own) != passes_labels(other, own)]
            self.assertEqual(labels is not None, len(parted) > 0)
            if labels is not None:
                self.check_labels(labels)
                self.assertNotEqual(passes_labels(one, labels), passes_labels(other, labels))
            told = summary(tuple((key, (0,), some_labels(draw)) for key in range(draw.randint(0, 4))))
            possible = [own for own in all_labels("abc") if passes_labels(one, own) and is_possible(own, told)]
            labels = self.unchanged(possible_labels, one, told)
            self.assertEqual(labels is not None, len(possible) > 0)
            found[labels is not None] += 1
            if labels is not None:
                self.check_labels(labels)
                self.assertTrue(passes_labels(one, labels) and is_possible(labels, told))
        self.assertGreater(min(found.values()), 30)


if __name__ == "__main__":
    unittest.main()
