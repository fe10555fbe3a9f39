"""What several tests share."""

import unittest


class Awkward:
    """An object with any attributes, which no check of the program may ask for more than its kind."""

    __hash__ = None

    def __init__(self):
        self.at = self.word = self.answer = self.steps = self.name = None

    def __eq__(self, other):
        raise RuntimeError("compared")

    def __lt__(self, other):
        raise RuntimeError("compared")

    def __len__(self):
        raise RuntimeError("measured")

    def __bool__(self):
        raise RuntimeError("tested")

    def __str__(self):
        raise RuntimeError("shown")

    __repr__ = __str__

    def __getattr__(self, name):
        return None


def odd_values():
    """Returns values of many kinds that are no tuple, string or integer of the program's own."""
    return [None, True, False, 1.0, 0.5, b"a", [], [1], {}, {"all": 1}, set(), object(), Awkward(), len, Awkward]


class Case(unittest.TestCase):
    """A test that also looks at the attributes of errors."""

    def refuses(self, wanted, call, *args, **named):
        """Asserts that a call raises just the error `wanted`, with its attributes."""
        with self.assertRaises(ValueError) as caught:
            call(*args, **named)
        raised = caught.exception
        self.assertIs(raised.__class__, wanted.__class__)
        self.assertEqual(vars(raised), vars(wanted))

    def same(self, one, other):
        """Asserts that two values are equal and of the same kinds throughout, as `True == 1` is not enough."""
        self.assertEqual(one, other)
        self.assertIs(one.__class__, other.__class__)
        if isinstance(one, tuple):
            for first, second in zip(one, other):
                self.same(first, second)
