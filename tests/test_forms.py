"""[17]: plain filters."""

import itertools
import random
import unittest

from helper import Case, some_filter
from nonearer.filters import check_filter, passes
from nonearer.forms import is_plain_filter, opposite_filter, plain_filter

ALL, NOTHING = ("all",), ("not", ("all",))
A, B, C, RANGE = ("has", "a"), ("has", "b"), ("has", "c"), ("in", "a", 1, 2)

PLAIN = [ALL, NOTHING, A, RANGE, ("not", A), ("not", RANGE), ("and", A, B), ("or", A, B), ("and", A, B, RANGE),
         ("and", A, ("not", B)), ("and", A, ("not", RANGE)), ("or", ("and", A, B), ("and", A, C)),
         ("and", A, ("or", B, C)), ("and", ("or", A, B), ("or", A, C)), ("or", ("and", A, ("or", B, C)), B),
         ("and", A, ("or", A, B)), ("and", ("or", A, B), ("or", A, ("not", B)))]

NOT_PLAIN = [("not", NOTHING), ("not", ("not", A)), ("not", ("and", A, B)), ("not", ("or", A, B)), ("and", B, A),
             ("and", A, A), ("or", A, A), ("or", B, A), ("and", A, ALL), ("or", A, ALL), ("and", ALL, ALL),
             ("or", A, NOTHING), ("and", A, NOTHING), ("and", ("and", A, B), C), ("or", A, ("or", B, C)),
             ("and", A, ("and", B, C)), ("and", A, ("not", A)), ("or", A, ("not", A)), ("or", RANGE, ("not", RANGE)),
             ("and", A, B, ("not", B)), ("and", A, ("or", C, B)), ("or", ("and", A, ("not", A)), B),
             ("and", A, ("or", B, ALL)), ("and", A, ("or", B, ("not", ("not", C)))), ("and", A, ("or", B, ("not", B))),
             ("and", ("not", A), A)]


def parts_of(sieve):
    """Returns the parts of a filter."""
    inner = sieve[1:] if sieve[0] in ("not", "and", "or") else ()
    return [sieve] + [part for one in inner for part in parts_of(one)]


def is_plain_by_words(sieve):
    """Returns whether a filter is plain, as [17] says."""
    if sieve in (ALL, NOTHING):
        return True
    for part in parts_of(sieve):
        if part == ALL or (part[0] == "not" and part[1][0] not in ("has", "in")):
            return False
        if part[0] in ("and", "or"):
            inner = list(part[1:])
            if inner != sorted(inner) or any(inner.count(one) > 1 or one[0] == part[0] for one in inner):
                return False
            if any(one[0] in ("has", "in") and ("not", one) in inner for one in inner):
                return False
    return True


def all_labels(names):
    """Returns all labels with these names, with integers that lie in and around all ranges of the tests."""
    return [tuple((name, integer) for name, integer in zip(names, integers) if integer is not None)
            for integers in itertools.product((None, -3, -2, -1, 0, 1, 2, 3, 4, 5), repeat=len(names))]


class PlainTest(Case):

    def test_plain_and_not(self):
        for sieve in PLAIN:
            self.assertIs(is_plain_filter(sieve), True, sieve)
            self.assertTrue(is_plain_by_words(sieve))
        for sieve in NOT_PLAIN:
            self.assertIs(is_plain_filter(sieve=sieve), False, sieve)
            self.assertFalse(is_plain_by_words(sieve))

    def test_constants(self):
        for sieve in (ALL, ("not", NOTHING), ("or", A, ALL), ("or", A, ("not", A)), ("and", ALL, ALL),
                      ("not", ("and", A, ("not", A))), ("or", A, B, ("not", B)), ("or", ("or", A, B), ("not", A)),
                      ("or", ("and", A, B), ("not", NOTHING))):
            self.same(plain_filter(sieve), ALL)
            self.same(opposite_filter(sieve), NOTHING)
            self.same(plain_filter(("not", sieve)), NOTHING)
            self.same(opposite_filter(("not", sieve)), ALL)

    def test_simple_ones(self):
        for sieve, wanted in ((A, A), (RANGE, RANGE), (("and", B, A), ("and", A, B)), (("and", A, A), A),
                              (("or", B, ("or", A, B)), ("or", A, B)), (("not", ("not", A)), A),
                              (("not", ("or", A, B)), ("and", ("not", A), ("not", B))), (("and", A, ALL), A),
                              (("or", A, NOTHING), A), (("and", A, ("or", B, B)), ("and", A, B)),
                              (("and", A, ("or", B, ("not", ("or", C, ("not", C))))), ("and", A, B))):
            self.same(plain_filter(sieve=sieve), wanted)
        self.same(opposite_filter(sieve=A), ("not", A))
        self.same(opposite_filter(("not", A)), A)

    def test_a_plain_filter_stays(self):
        for sieve in PLAIN:
            self.same(plain_filter(sieve), sieve)

    def check_meaning(self, sieve, every):
        plain, opposite = self.unchanged(plain_filter, sieve), self.unchanged(opposite_filter, sieve)
        for form in (plain, opposite):
            self.assertIsNone(check_filter(form))
            self.assertTrue(is_plain_by_words(form), (sieve, form))
            self.assertIs(is_plain_filter(form), True)
            self.assertLessEqual(len(parts_of(form)), 2 * len(parts_of(sieve)))
        for labels in every:
            item = (0, (0,), labels)
            passed = passes(sieve, item)
            self.assertIs(passes(plain, item), passed)
            self.assertIs(passes(opposite, item), not passed)

    def test_random_filters(self):
        draw = random.Random(17)
        every = all_labels("ab")
        for _ in range(300):
            sieve = some_filter(draw, draw.randint(1, 5), "ab")
            self.assertIs(is_plain_filter(sieve), is_plain_by_words(sieve))
            self.check_meaning(sieve, every)

    def test_a_deep_filter(self):
        sieve = A
        for at in range(30):
            sieve = (("and", "or")[at % 2], ("not", sieve), (B, C, RANGE)[at % 3])
        self.check_meaning(sieve, all_labels("ab"))


if __name__ == "__main__":
    unittest.main()
