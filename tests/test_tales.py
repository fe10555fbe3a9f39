"""[85], as far as it is about nonearer/tales.py."""

import itertools
import random
import unittest

from helper import Case, shuffled, some_labels, some_state, some_vector
from nonearer.plain import done_all
from nonearer.tales import least_left, left_count, lost_keys, may_be_left

ONE, TWO, THREE = (1, (0,), ()), (1, (5,), (("a", 1),)), (2, (7,), ())
DEEDS = (("put", ONE), ("put", THREE), ("take", 1), ("put", TWO))


def some_tale(draw, most=7):
    """Returns a random state, and random deeds and safe ones of them, about a few keys."""
    before = {key: (key, some_vector(draw, 1, 1), some_labels(draw, "a", 0, 1)) for key in range(4) if draw.randint(0, 1)}
    deeds = []
    for _ in range(draw.randint(0, most)):
        key = draw.randint(0, 4)
        item = (key, some_vector(draw, 1, 1), some_labels(draw, "a", 0, 1))
        deeds.append(draw.choice((("put", item), ("take", key))))
    return shuffled(draw, before), tuple(deeds), tuple(at for at in range(len(deeds)) if draw.randint(0, 2) == 0)


def left_by_words(before, deeds, safe):
    """Returns a dict from keys to the list of what may be left of each: its item, or `None`."""
    left = {}
    for key in list(before) + [deed[1] if deed[0] == "take" else deed[1][0] for deed in deeds]:
        own = [at for at, deed in enumerate(deeds) if (deed[1] if deed[0] == "take" else deed[1][0]) == key]
        last = max([at for at in own if at in safe], default=-1)
        # What the deeds up to the last safe one leave, or up to one behind it.
        ends = [last] + [at for at in own if at > last]
        left[key] = [done_all(before, tuple(deeds[at] for at in own if at <= end)).get(key) for end in ends]
    return left


class LostTest(Case):

    def test_simple_ones(self):
        for safe, after, wanted in (((), {}, ()), ((), {1: ONE}, ()), ((), {1: TWO}, ()), ((), {1: TWO, 2: THREE}, ()),
                                    ((0,), {}, ()), ((0,), {1: ONE}, ()), ((1,), {1: ONE}, (2,)), ((1,), {}, (2,)),
                                    ((1, 2), {2: THREE, 1: ONE}, (1,)), ((3,), {}, (1,)), ((3,), {1: TWO}, ()),
                                    ((0, 1, 2, 3), {1: ONE}, (1, 2)), ((3,), {1: ONE, 5: (5, (0,), ())}, (1, 5)),
                                    ((), {1: (1, (0,), (("a", 1),))}, (1,))):
            self.same(lost_keys({}, DEEDS, safe, after), wanted)
            self.assertIs(may_be_left({}, DEEDS, safe, after), wanted == ())
        self.same(lost_keys(before={2: THREE}, deeds=(), safe=(), after={}), (2,))
        self.assertIs(may_be_left(before={2: THREE}, deeds=(), safe=(), after={2: THREE}), True)

    def test_the_keys_ascend(self):
        keys = (10 ** 8, 7, 10 ** 8 + 5, 64, 3, 999999999)
        deeds = tuple(("put", (key, (0,), ())) for key in keys[:3])
        after = {key: (key, (1,), ()) for key in keys}
        self.same(lost_keys({}, deeds, (0,), after), (3, 7, 64, 10 ** 8, 10 ** 8 + 5, 999999999))

    def test_a_safe_deed_counts_for_its_key_alone(self):
        self.same(lost_keys({}, DEEDS, (3,), {1: TWO}), ())
        self.same(lost_keys({}, DEEDS, (1,), {2: THREE}), ())

    def test_a_state_without_items_and_no_deeds(self):
        self.same(lost_keys({}, (), (), {}), ())
        self.same(lost_keys({}, (), (), {2: THREE, 1: ONE}), (1, 2))
        self.assertEqual(least_left({}, (), ()), {})
        self.same(left_count({}, (), ()), 1)

    def test_by_the_words(self):
        draw = random.Random(85)
        lost = 0
        for _ in range(600):
            before, deeds, safe = some_tale(draw)
            left = left_by_words(before, deeds, safe)
            after = {key: item for key, item in ((key, draw.choice(left[key])) for key in left) if item is not None}
            self.same(self.unchanged(lost_keys, before, deeds, safe, after), ())
            self.assertIs(self.unchanged(may_be_left, before, deeds, safe, after), True)
            other = shuffled(draw, done_all(after, some_tale(draw, 3)[1]))
            wanted = [key for key in sorted({*left, *other}) if other.get(key) not in left.get(key, [None])]
            self.same(lost_keys(before, deeds, safe, other), tuple(wanted))
            self.assertIs(may_be_left(before, deeds, safe, other), not wanted)
            lost += bool(wanted)
        self.assertGreater(lost, 100)

    def test_any_beginning_of_all_deeds_may_be_left(self):
        draw = random.Random(86)
        for _ in range(100):
            before, deeds, safe = some_tale(draw)
            for many in range(max(safe, default=-1) + 1, len(deeds) + 1):
                self.same(lost_keys(before, deeds, safe, done_all(before, deeds[:many])), ())


class LeftTest(Case):

    def test_simple_ones(self):
        for safe, wanted, many in (((), {}, 6), ((0,), {1: ONE}, 6), ((1,), {2: THREE}, 3), ((2,), {}, 4),
                                   ((0, 3), {1: TWO}, 2), ((1, 3), {1: TWO, 2: THREE}, 1)):
            self.assertEqual(least_left({}, DEEDS, safe), wanted)
            self.same(left_count({}, DEEDS, safe), many)
        # A put of what is there, or a take of what is not, leaves nothing else.
        self.same(left_count(before={2: THREE}, deeds=(("put", THREE), ("take", 1)), safe=()), 1)
        self.assertEqual(least_left(before={2: THREE, 1: ONE}, deeds=(("take", 1), ("take", 2)), safe=(1,)), {1: ONE})

    def test_all_that_may_be_left(self):
        draw = random.Random(87)
        for _ in range(200):
            before, deeds, safe = some_tale(draw)
            left = left_by_words(before, deeds, safe)
            states = []
            for items in itertools.product(*left.values()):
                state = {key: item for key, item in zip(left, items) if item is not None}
                if state not in states:
                    states.append(state)
            self.same(self.unchanged(left_count, before, deeds, safe), len(states))
            least = self.unchanged(least_left, before, deeds, safe)
            self.assertEqual(least, states[0])
            self.assertTrue(all(may_be_left(before, deeds, safe, state) for state in states[:50]))
            least[99] = None
            self.assertNotIn(99, before)

    def test_many_ones(self):
        draw = random.Random(88)
        before = some_state(draw, 400, 2)
        deeds = tuple(("take", key) for key in before)
        self.same(left_count(before, deeds, ()), 2 ** 400)
        self.same(left_count(before, deeds, tuple(range(400))), 1)
        self.assertEqual(least_left(before, deeds, tuple(range(400))), {})
        self.assertEqual(least_left(before, deeds, ()), before)


if __name__ == "__main__":
    unittest.main()
