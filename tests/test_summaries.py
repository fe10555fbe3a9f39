"""[14], [15]: summaries and verdicts."""

import itertools
import random
import unittest

from helper import Case, odd_values, some_filter, some_labels
from nonearer.filters import passes
from nonearer.summaries import (example_labels, is_possible, is_summary, joined_summary, may_pass, must_pass, summary,
                                verdict)

NO_ITEMS = (0, ())
TOLD = (3, (("size", 3, 2, 9), ("tall", 1, 1, 1)))

# All labels with two names and integers from 0 to 2; a third name is never there.
LABELS = [tuple((name, integer) for name, integer in zip("ab", integers) if integer is not None)
          for integers in itertools.product((None, 0, 1, 2), repeat=2)]


def items_with(labels):
    """Returns items with these labels, one for each."""
    return tuple((key, (0,), own) for key, own in enumerate(labels))


def summary_by_words(items):
    """Returns the summary of items, as [14] says."""
    names = sorted({name for item in items for name, _ in item[2]})
    rows = []
    for name in names:
        integers = [integer for item in items for own, integer in item[2] if own == name]
        rows.append((name, len(integers), min(integers), max(integers)))
    return len(items), tuple(rows)


def all_by_summary(most):
    """Returns a dict from each summary of at most `most` items to the set of all labels that one of such items has."""
    found = {}
    for count in range(most + 1):
        for labels in itertools.combinations_with_replacement(LABELS, count):
            found.setdefault(summary_by_words(items_with(labels)), set()).update(labels)
    return found


def verdict_by_words(sieve, told, possible):
    """Returns the verdict as [15] says, with all labels that items of the summary may have."""
    word = sieve[0]
    if told[0] == 0:
        return "none"
    if word == "all":
        return "all"
    if word == "not":
        return {"all": "none", "none": "all", "some": "some"}[verdict_by_words(sieve[1], told, possible)]
    if word in ("and", "or"):
        inner = {verdict_by_words(part, told, possible) for part in sieve[1:]}
        strong, weak = ("none", "all") if word == "and" else ("all", "none")
        return strong if strong in inner else weak if inner == {weak} else "some"
    passed = {passes(sieve, (0, (0,), labels)) for labels in possible}
    return {(True,): "all", (False,): "none"}.get(tuple(passed), "some")


class SummaryTest(Case):

    def test_the_example(self):
        told = summary(((1, (0,), (("size", 3),)), (2, (5,), (("size", 9), ("tall", 1)))))
        self.same(told, (2, (("size", 2, 3, 9), ("tall", 1, 1, 1))))
        self.same(verdict(("in", "size", 4, 8), told), "none")
        self.same(verdict(("has", "size"), told), "all")
        self.same(may_pass(("and", ("has", "tall"), ("not", ("has", "tall"))), told), True)

    def test_summaries(self):
        self.same(summary(()), NO_ITEMS)
        self.same(summary(items=items_with([()])), (1, ()))
        self.same(summary(items_with([(("a", 0),), (("a", 0),)])), (2, (("a", 2, 0, 0),)))
        draw = random.Random(14)
        for _ in range(100):
            items = items_with([some_labels(draw) for _ in range(draw.randint(0, 6))])
            self.same(self.unchanged(summary, items), summary_by_words(items))

    def test_joined_summaries(self):
        self.same(joined_summary(NO_ITEMS, NO_ITEMS), NO_ITEMS)
        self.same(joined_summary(one=TOLD, other=NO_ITEMS), TOLD)
        self.same(joined_summary(NO_ITEMS, TOLD), TOLD)
        draw = random.Random(15)
        for _ in range(100):
            items = items_with([some_labels(draw) for _ in range(6)])
            at = draw.randint(0, 6)
            self.same(joined_summary(summary(items[:at]), summary(items[at:])), summary(items))

    def test_is_summary(self):
        for told in list(all_by_summary(2)) + [TOLD, (10 ** 20, (("a", 10 ** 19, -5, 10 ** 30),)), (1, ())]:
            self.assertIs(is_summary(told), True)

    def test_no_summaries(self):
        wrong = [(), (1,), (1, (), 2), [1, ()], (-1, ()), (True, ()), (1.0, ()), ("1", ()), (None, ()), (1, []),
                 (1, None), ((), 1), (1, ((),)), (1, (("a", 1, 2),)), (1, (("a", 1, 2, 2, 2),)), (1, (["a", 1, 2, 2],)),
                 (1, (("A", 1, 2, 2),)), (1, (("", 1, 2, 2),)), (1, ((1, 1, 2, 2),)), (1, (("a", 0, 2, 2),)),
                 (1, (("a", 2, 2, 2),)), (1, (("a", 1, 2, 3),)), (2, (("a", 2, 3, 2),)), (2, (("a", 1, 1, 2),)),
                 (2, (("a", True, 2, 2),)), (2, (("a", 1, True, True),)), (2, (("a", 1, 2, 2.0),)),
                 (2, (("a", 1, None, None),)), (2, (("a", 1, "b", "b"),)), (0, (("a", 1, 2, 2),)),
                 (2, (("b", 1, 2, 2), ("a", 1, 2, 2))), (2, (("a", 1, 2, 2), ("a", 1, 2, 2))),
                 (2, (("a", 1, 2, 2), ("a", 1, 3, 3))), (2, (("a", 1, 2, 2), None)), (2, ("a", 1, 2, 2)), "ab", 1]
        for value in odd_values() + wrong:
            self.assertIs(is_summary(value), False, value.__class__)
        for odd in odd_values():
            for value in ((odd, ()), (1, odd), (1, (odd,)), (2, ((odd, 1, 2, 2),)), (2, (("a", odd, 2, 2),)),
                          (2, (("a", 1, odd, 2),)), (2, (("a", 1, 2, odd),))):
                self.assertIs(is_summary(value=value), False)

    def test_example_labels(self):
        self.same(example_labels(NO_ITEMS), ())
        self.same(example_labels((2, ())), ((), ()))
        for told in list(all_by_summary(3)) + [TOLD, (9, (("a", 1, 5, 5), ("b", 9, -7, 7), ("c", 2, 0, 1)))]:
            labels = self.unchanged(example_labels, told)
            self.assertEqual(len(labels), told[0])
            self.same(summary(items_with(labels)), told)
        self.same(summary(items_with(example_labels(told=TOLD))), TOLD)


class PossibleTest(Case):

    def test_all_small_summaries(self):
        for told, possible in all_by_summary(4).items():
            for labels in LABELS + [(("c", 0),), (("a", 0), ("c", 0))]:
                self.assertIs(is_possible(labels, told), labels in possible, (labels, told))

    def test_between(self):
        for many, wanted in ((2, False), (3, True), (7, True)):
            told = (7, (("a", many, 0, 9),))
            self.assertIs(is_possible((("a", 4),), told), wanted)
            self.assertIs(is_possible((("a", 0),), told), True)
            self.assertIs(is_possible((("a", 9),), told), True)
            self.assertIs(is_possible((("a", 10),), told), False)
            self.assertIs(is_possible((("a", -1),), told), False)
            self.assertIs(is_possible(labels=(), told=told), many < 7)

    def test_no_items(self):
        self.assertIs(is_possible((), NO_ITEMS), False)
        self.assertIs(is_possible((("a", 1),), NO_ITEMS), False)


class VerdictTest(Case):

    def test_no_items(self):
        for sieve in (("all",), ("not", ("all",)), ("has", "a"), ("in", "a", 1, 2), ("not", ("has", "a")),
                      ("and", ("all",), ("all",)), ("or", ("all",), ("has", "a"))):
            self.same(verdict(sieve, NO_ITEMS), "none")
            self.assertIs(may_pass(sieve, NO_ITEMS), False)
            self.assertIs(must_pass(sieve, NO_ITEMS), True)

    def test_ranges_with_one_integer(self):
        two, three = (2, (("a", 2, 3, 9),)), (3, (("a", 3, 3, 9),))
        self.assertEqual([verdict(("in", "a", at, at), two) for at in (2, 3, 6, 9, 10)],
                         ["none", "some", "none", "some", "none"])
        self.assertEqual([verdict(("in", "a", at, at), three) for at in (2, 3, 6, 9, 10)],
                         ["none", "some", "some", "some", "none"])
        self.same(verdict(("in", "a", 5, 5), (4, (("a", 4, 5, 5),))), "all")
        self.same(verdict(("in", "a", 5, 5), (4, (("a", 3, 5, 5),))), "some")

    def test_ranges_at_the_bounds(self):
        told = (2, (("a", 2, 3, 9),))
        for low, high, wanted in ((3, 9, "all"), (4, 9, "some"), (3, 8, "some"), (4, 8, "none"), (0, 2, "none"),
                                  (10, 99, "none"), (0, 3, "some"), (9, 10, "some"), (-99, 99, "all")):
            self.same(verdict(sieve=("in", "a", low, high), told=told), wanted)

    def test_a_name_that_all_have_and_one_that_none_has(self):
        told = (2, (("a", 2, 3, 9), ("b", 1, 0, 0)))
        self.assertEqual([verdict(("has", name), told) for name in "abc"], ["all", "some", "none"])
        self.assertEqual([verdict(("not", ("has", name)), told) for name in "abc"], ["none", "some", "all"])
        self.same(verdict(("in", "c", 0, 9), told), "none")

    def test_words(self):
        told = (2, (("a", 2, 3, 9), ("b", 1, 0, 0)))
        everything, some, nothing = ("has", "a"), ("has", "b"), ("has", "c")
        for sieve, wanted in ((("and", everything, some), "some"), (("and", some, nothing), "none"),
                              (("and", everything, ("all",)), "all"), (("or", nothing, some), "some"),
                              (("or", some, everything), "all"), (("or", nothing, nothing), "none"),
                              (("and", some, ("not", some)), "some"), (("or", some, ("not", some)), "some"),
                              (("not", ("all",)), "none"), (("and", some, some, nothing), "none"),
                              (("or", nothing, nothing, everything), "all")):
            self.same(verdict(sieve, told), wanted)
            self.assertIs(may_pass(sieve=sieve, told=told), wanted != "none")
            self.assertIs(must_pass(sieve=sieve, told=told), wanted == "all")

    def test_by_the_words_and_what_they_mean(self):
        draw = random.Random(16)
        found = sorted(all_by_summary(3).items())
        for _ in range(1500):
            told, possible = draw.choice(found)
            sieve = some_filter(draw, draw.randint(1, 4))
            wanted = verdict_by_words(sieve, told, possible)
            self.same(self.unchanged(verdict, sieve, told), wanted)
            passed = [passes(sieve, (0, (0,), labels)) for labels in possible]
            self.assertTrue(wanted != "none" or not any(passed))
            self.assertTrue(wanted != "all" or all(passed))
            self.assertIs(may_pass(sieve, told), wanted != "none")
            self.assertIs(must_pass(sieve, told), wanted == "all" or told[0] == 0)

    def test_parts_of_lots_have_the_same_verdict(self):
        draw = random.Random(17)
        for _ in range(500):
            one, other = [summary(items_with([some_labels(draw) for _ in range(draw.randint(0, 3))])) for _ in "12"]
            sieve = some_filter(draw, 3)
            both = verdict(sieve, joined_summary(one, other))
            for told in (one, other):
                if both != "some" and told[0] > 0:
                    self.same(verdict(sieve, told), both)


if __name__ == "__main__":
    unittest.main()
