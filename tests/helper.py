"""What several tests share."""

import copy
import itertools
import unittest

from nonearer.filters import passes
from nonearer.lots import Index
from nonearer.regions import floor_of, region_of
from nonearer.summaries import may_pass, summary

KINDS = ("square", "sum", "most", "unlike")
FORMS = ("balls", "boxes", "cells")
WORDS = ("empty", "barred", "far", "open")
ALL = ("all",)
EMPTY_REGIONS = {"balls": ("ball", (), 0), "boxes": ("box", (), ()), "cells": ("cell", (), 0, 0)}


class Awkward:
    """An object with any attributes, which no check of the program may ask for more than its kind."""

    __hash__ = None

    def __init__(self):
        self.at = self.word = self.answer = self.steps = self.name = None

    def __eq__(self, other):
        raise RuntimeError("compared")

    def __lt__(self, other):
        raise RuntimeError("compared")

    def __len__(self):
        raise RuntimeError("measured")

    def __bool__(self):
        raise RuntimeError("tested")

    def __str__(self):
        raise RuntimeError("shown")

    __repr__ = __str__

    def __getattr__(self, name):
        return None


def odd_values():
    """Returns values of many kinds that are no tuple, string or integer of the program's own."""
    return [None, True, False, 1.0, 0.5, b"a", [], [1], {}, {"all": 1}, set(), object(), Awkward(), len, Awkward]


def some_filter(draw, deep, names="abc", words=("all", "has", "in", "not", "and", "or")):
    """Returns a random filter of some words that is at most so deep."""
    word = draw.choice([one for one in words if deep > 1 or one in ("all", "has", "in")])
    if word == "all":
        return ("all",)
    if word == "has":
        return word, draw.choice(names)
    if word == "in":
        low = draw.randint(-2, 2)
        return word, draw.choice(names), low, low + draw.randint(0, 2)
    many = 1 if word == "not" else draw.randint(2, 3)
    return (word,) + tuple(some_filter(draw, deep - 1, names, words) for _ in range(many))


def some_labels(draw, names="abc", low=-3, high=4):
    """Returns random labels."""
    return tuple((name, draw.randint(low, high)) for name in names if draw.randint(0, 2))


def some_vector(draw, places, far=4):
    """Returns a random vector."""
    return tuple(draw.randint(-far, far) for _ in range(places))


def some_state(draw, count, places, far=4, names="abc"):
    """Returns a random state, its keys in no order."""
    keys = draw.sample(range(5 * count + 5), count)
    return {key: (key, some_vector(draw, places, far), some_labels(draw, names)) for key in keys}


def shuffled(draw, state):
    """Returns an equal dict with its keys in another sequence."""
    keys = list(state)
    draw.shuffle(keys)
    return {key: state[key] for key in keys}


def distance_by_words(kind, one, other):
    """Returns the distance of two vectors, as [2] says."""
    sizes = [abs(first - second) for first, second in zip(one, other)]
    return {"square": sum(size ** 2 for size in sizes), "sum": sum(sizes), "most": max(sizes, default=0),
            "unlike": sum(size != 0 for size in sizes)}[kind]


def some_question(draw, places, most=6, kind=None):
    """Returns a random question, of a kind if one is given."""
    return kind or draw.choice(KINDS), some_vector(draw, places), draw.randint(1, most), some_filter(draw, 3)


def pair_by_words(kind, vector, item):
    """Returns the pair of an item's distance from a vector, and its key."""
    return distance_by_words(kind, vector, item[1]), item[0]


def pairs_by_words(state, kind, vector, sieve):
    """Returns the ascending list of the pairs of all items that pass."""
    return sorted(pair_by_words(kind, vector, item) for item in state.values() if passes(sieve, item))


def loosened(draw, region):
    """Returns a region that may hold more vectors than another one."""
    if region[0] == "ball":
        return region[:2] + (region[2] + draw.randint(0, 3),)
    if region[0] == "cell":
        return region[:2] + (max(0, region[2] - draw.randint(0, 2)), region[3] + draw.randint(0, 3))
    return ("box", tuple(integer - draw.randint(0, 1) for integer in region[1]),
            tuple(integer + draw.randint(0, 2) for integer in region[2]))


def some_lot(draw, state, keys, kind, form, room):
    """Returns a random sound lot for a list of keys."""
    items = tuple(state[key] for key in keys)
    region = EMPTY_REGIONS[form]
    if items:
        region = region_of(kind, form, tuple(item[1] for item in items))
        region = draw.choice((region, loosened(draw, region)))
    content = ("items", tuple(sorted(keys)))
    if len(keys) > 1 and (len(keys) > room or draw.randint(0, 1)):
        many = draw.randint(2, min(len(keys), 4))
        ends = [0] + sorted(draw.sample(range(1, len(keys)), many - 1)) + [len(keys)]
        content = ("lots", tuple(some_lot(draw, state, keys[start:end], kind, form, room)
                                 for start, end in zip(ends, ends[1:])))
    return region, summary(items), content


def some_index(draw, state, kind, form):
    """Returns a random sound index of a state, in which near items often lie in one lot."""
    keys = sorted(state, key=lambda key: state[key][1])
    if draw.randint(0, 1):
        draw.shuffle(keys)
    room = draw.randint(1, 5)
    return Index(kind, form, some_lot(draw, state, keys, kind, form, room), room)


def lots_by_words(lot):
    """Returns the list of a lot and all lots in it, as [35] numbers them."""
    inner = lot[2][1] if lot[2][0] == "lots" else ()
    return [lot] + [one for own in inner for one in lots_by_words(own)]


def keys_by_words(lot):
    """Returns the set of the keys of a lot's items."""
    return {key for one in lots_by_words(lot) if one[2][0] == "items" for key in one[2][1]}


def is_right_by_words(word, kind, vector, sieve, reach, lot):
    """Returns whether a word is right for a lot, as [48] says."""
    if word == "empty":
        return lot[1][0] == 0
    if word == "barred":
        return not may_pass(sieve, lot[1])
    if word == "far":
        return lot[1][0] > 0 and reach is not None and floor_of(kind, lot[0], vector) > reach
    return word == "open"


def steps_by_words(lot, is_right):
    """Returns the list of all right steps for a lot and what is met behind it, by a function of word and lot."""
    found = [(word,) for word in WORDS[:3] if is_right(word, lot)]
    inner = [steps_by_words(one, is_right) for one in (lot[2][1] if lot[2][0] == "lots" else ())]
    return found + [("open",) + sum(parts, ()) for parts in itertools.product(*inner)]


def met_by_words(lot, steps):
    """Returns the lots met from a lot on, with the steps that are left then."""
    met, rest = [lot], steps[1:]
    if steps[0] == "open" and lot[2][0] == "lots":
        for inner in lot[2][1]:
            more, rest = met_by_words(inner, rest)
            met += more
    return met, rest


def some_case(draw, most=7):
    """Returns a random index, its state, and a kind, a vector, a filter and a reach."""
    kind, places = draw.choice(KINDS), draw.randint(1, 2)
    state = some_state(draw, draw.randint(0, most), places)
    index = some_index(draw, state, kind, draw.choice(FORMS))
    vector, sieve = some_vector(draw, places, 6), draw.choice((ALL, some_filter(draw, 2)))
    return index, state, kind, vector, sieve, draw.choice((None, 0, 1, 2, 5, 20))


def all_right_by_words(index, kind, vector, sieve, reach):
    """Returns the list of all right steps, as [48] says."""
    return steps_by_words(index.lot, lambda word, lot: is_right_by_words(word, kind, vector, sieve, reach, lot))


def keys_looked_at(index, steps):
    """Returns the list of the keys of the items that right steps look at."""
    return [key for lot, word in zip(met_by_words(index.lot, steps)[0], steps)
            if word == "open" and lot[2][0] == "items" for key in lot[2][1]]


def step_fault_by_words(right, steps):
    """Returns the number of the first wrong one of a tuple of steps, `None` if they are among the right ones."""
    if steps in right:
        return None
    wrong = [end for end in range(1, len(steps) + 1) if not any(one[:end] == steps[:end] for one in right)]
    return wrong[0] - 1 if wrong else len(steps)


def answer_by_words(state, question):
    """Returns the answer to a question, as [3] says."""
    kind, vector, many, sieve = question
    return tuple(pairs_by_words(state, kind, vector, sieve)[:many])


def some_deed(draw, keys, places):
    """Returns a random deed about one of so many keys."""
    key = draw.randrange(keys)
    if draw.randint(0, 1):
        return "take", key
    return "put", (key, some_vector(draw, places, 3), some_labels(draw, "abc", -1, 2))


def differences_by_words(before, now):
    """Returns the tuples of what is gone and what is new."""
    return (tuple(pair for pair in before if pair not in now), tuple(pair for pair in now if pair not in before))


def parts_of(book):
    """Returns the attributes of a book, which may be compared."""
    return book.state, book.waiting, book.given_away, book.mark


def some_command(draw, places):
    """Returns a random command."""
    word = draw.choice(("do", "do", "ask", "sync", "level", "count", "keys", "fold", "cut", "move", "stop"))
    keys = tuple(sorted(draw.sample(range(30), draw.randint(1, 3))))
    item = list(some_state(draw, 1, places).values())[0]
    parts = {"do": (draw.choice((("put", item), ("take", item[0]))),), "ask": (some_question(draw, places),),
             "fold": (draw.randint(0, 99),), "cut": (tuple(draw.randint(0, 99) for _ in range(draw.randint(0, 3))),),
             "move": (draw.randint(0, 3), draw.randint(0, 3), keys),
             "stop": (draw.randint(0, 7), draw.randint(0, 3), draw.randint(0, 3), keys)}
    return (word,) + parts.get(word, ())


def some_commands(draw, most=25):
    """Returns random commands about items with two places, many of which can be done."""
    commands = []
    for _ in range(draw.randint(0, most)):
        command = some_command(draw, 2)
        if command[0] in ("move", "stop") and draw.randint(0, 3):
            keys = [one[1][1][0] for one in commands if one[0] == "do" and one[1][0] == "put"]
            command = command[:-1] + ((draw.choice(keys or [1]),),)
        commands.append(command)
    return tuple(commands)


def as_values(thing):
    """Returns what compares as a value: instead of an object of the program, which may not compare, its attributes."""
    if isinstance(thing, (tuple, list)):
        return [as_values(one) for one in thing]
    if isinstance(thing, dict):
        return {key: as_values(one) for key, one in thing.items()}
    if thing.__class__.__module__.startswith("nonearer."):
        return thing.__class__.__name__, as_values(vars(thing))
    return thing


class Case(unittest.TestCase):
    """A test that also looks at the attributes of errors."""

    def refuses(self, wanted, call, *args, **named):
        """Asserts that a call raises just the error `wanted`, with its attributes."""
        with self.assertRaises(ValueError) as caught:
            call(*args, **named)
        raised = caught.exception
        self.assertIs(raised.__class__, wanted.__class__)
        self.assertEqual(vars(raised), vars(wanted))

    def same(self, one, other):
        """Asserts that two values are equal and of the same kinds throughout, as `True == 1` is not enough."""
        self.assertEqual(one, other)
        self.assertIs(one.__class__, other.__class__)
        if isinstance(one, tuple):
            for first, second in zip(one, other):
                self.same(first, second)

    def unchanged(self, call, *args, **named):
        """Returns what a call returns, and asserts that it leaves its arguments as they are."""
        before = copy.deepcopy((args, named))
        result = call(*args, **named)
        self.assertEqual(as_values((args, named)), as_values(before))
        for one, other in zip(args, before[0]):
            if isinstance(one, dict):
                self.assertEqual(list(one), list(other))
        return result
