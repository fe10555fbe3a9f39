"""What several tests share."""

import copy
import unittest

KINDS = ("square", "sum", "most", "unlike")
FORMS = ("balls", "boxes", "cells")


class Awkward:
    """An object with any attributes, which no check of the program may ask for more than its kind."""

    __hash__ = None

    def __init__(self):
        self.at = self.word = self.answer = self.steps = self.name = None

    def __eq__(self, other):
        raise RuntimeError("compared")

    def __lt__(self, other):
        raise RuntimeError("compared")

    def __len__(self):
        raise RuntimeError("measured")

    def __bool__(self):
        raise RuntimeError("tested")

    def __str__(self):
        raise RuntimeError("shown")

    __repr__ = __str__

    def __getattr__(self, name):
        return None


def odd_values():
    """Returns values of many kinds that are no tuple, string or integer of the program's own."""
    return [None, True, False, 1.0, 0.5, b"a", [], [1], {}, {"all": 1}, set(), object(), Awkward(), len, Awkward]


def some_filter(draw, deep, names="abc", words=("all", "has", "in", "not", "and", "or")):
    """Returns a random filter of some words that is at most so deep."""
    word = draw.choice([one for one in words if deep > 1 or one in ("all", "has", "in")])
    if word == "all":
        return ("all",)
    if word == "has":
        return word, draw.choice(names)
    if word == "in":
        low = draw.randint(-2, 2)
        return word, draw.choice(names), low, low + draw.randint(0, 2)
    many = 1 if word == "not" else draw.randint(2, 3)
    return (word,) + tuple(some_filter(draw, deep - 1, names, words) for _ in range(many))


def some_labels(draw, names="abc", low=-3, high=4):
    """Returns random labels."""
    return tuple((name, draw.randint(low, high)) for name in names if draw.randint(0, 2))


def some_vector(draw, places, far=4):
    """Returns a random vector."""
    return tuple(draw.randint(-far, far) for _ in range(places))


def some_state(draw, count, places, far=4, names="abc"):
    """Returns a random state, its keys in no order."""
    keys = draw.sample(range(5 * count + 5), count)
    return {key: (key, some_vector(draw, places, far), some_labels(draw, names)) for key in keys}


def shuffled(draw, state):
    """Returns an equal dict with its keys in another sequence."""
    keys = list(state)
    draw.shuffle(keys)
    return {key: state[key] for key in keys}


def distance_by_words(kind, one, other):
    """Returns the distance of two vectors, as [2] says."""
    sizes = [abs(first - second) for first, second in zip(one, other)]
    return {"square": sum(size ** 2 for size in sizes), "sum": sum(sizes), "most": max(sizes, default=0),
            "unlike": sum(size != 0 for size in sizes)}[kind]


class Case(unittest.TestCase):
    """A test that also looks at the attributes of errors."""

    def refuses(self, wanted, call, *args, **named):
        """Asserts that a call raises just the error `wanted`, with its attributes."""
        with self.assertRaises(ValueError) as caught:
            call(*args, **named)
        raised = caught.exception
        self.assertIs(raised.__class__, wanted.__class__)
        self.assertEqual(vars(raised), vars(wanted))

    def same(self, one, other):
        """Asserts that two values are equal and of the same kinds throughout, as `True == 1` is not enough."""
        self.assertEqual(one, other)
        self.assertIs(one.__class__, other.__class__)
        if isinstance(one, tuple):
            for first, second in zip(one, other):
                self.same(first, second)

    def unchanged(self, call, *args, **named):
        """Returns what a call returns, and asserts that it leaves its arguments as they are."""
        before = copy.deepcopy((args, named))
        result = call(*args, **named)
        self.assertEqual((args, named), before)
        for one, other in zip(args, before[0]):
            if isinstance(one, dict):
                self.assertEqual(list(one), list(other))
        return result
