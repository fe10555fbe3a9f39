"""[89], [90], [91], [92]: standing questions, and everything near."""

import random
import unittest

from helper import (ALL, KINDS, Awkward, Case, answer_by_words, differences_by_words, pair_by_words, pairs_by_words,
                    some_deed, some_filter, some_question, some_state, some_vector)
from nonearer.filters import passes
from nonearer.plain import done, state_of
from nonearer.standing import Nearby, Standing

LINE = state_of(((1, (0,), ()), (2, (4,), ()), (3, (9,), ())))


class Words:
    """A standing question as [89] and [90] tell it."""

    def __init__(self, state, question, spare):
        self.question, self.size, self.refills = question, question[2] + spare, 0
        self.fill(state)

    def fill(self, state):
        kind, vector, _, sieve = self.question
        self.kept = pairs_by_words(state, kind, vector, sieve)[:self.size]
        self.limit = self.kept[-1] if len(self.kept) == self.size else None

    def made(self, deed):
        kind, vector, _, sieve = self.question
        return pair_by_words(kind, vector, deed[1]) if deed[0] == "put" and passes(sieve, deed[1]) else None

    def matters(self, deed):
        key = deed[1] if deed[0] == "take" else deed[1][0]
        if key in [pair[1] for pair in self.kept]:
            return True
        pair = self.made(deed)
        return pair is not None and (self.limit is None or pair <= self.limit)

    def told(self, deed, state):
        before = self.kept[:self.question[2]]
        if self.matters(deed):
            key = deed[1] if deed[0] == "take" else deed[1][0]
            self.kept = [pair for pair in self.kept if pair[1] != key]
            pair = self.made(deed)
            if pair is not None and (self.limit is None or pair <= self.limit):
                self.kept = sorted(self.kept + [pair])
            if len(self.kept) > self.size:
                self.kept.pop()
                self.limit = self.kept[-1]
            if self.limit is not None and len(self.kept) < self.question[2]:
                self.fill(state)
                self.refills += 1
        return differences_by_words(before, self.kept[:self.question[2]])


class StandingTest(Case):

    def test_the_example(self):
        one = Standing(LINE, ("sum", (1,), 1, ALL), spare=1)
        self.same((one.kept(), one.limit(), one.matters(("put", (7, (8,), ())))), (((1, 1), (3, 2)), (3, 2), False))
        self.same(one.told(("take", 1), None), (((1, 1),), ((3, 2),)))
        self.same(one.refills(), 0)
        self.same(one.told(("take", 2), state_of(((3, (9,), ()),))), (((3, 2),), ((8, 3),)))
        self.assertIsNone(one.limit())
        self.same(one.refills(), 1)

    def test_the_attributes(self):
        question = ("sum", (1,), 1, ALL)
        one = Standing(question=question, state=LINE, spare=2)
        self.same((one.question, one.spare), (question, 2))
        self.same(Standing(LINE, question).spare, 0)
        self.assertNotIn("state", vars(one))
        self.assertFalse(any(isinstance(value, dict) for value in vars(one).values()))
        self.assertRaises(TypeError, Standing, LINE, question, 2)

    def test_filling(self):
        for spare, kept, limit in ((0, ((1, 1),), (1, 1)), (1, ((1, 1), (3, 2)), (3, 2)),
                                   (2, ((1, 1), (3, 2), (8, 3)), (8, 3)), (3, ((1, 1), (3, 2), (8, 3)), None),
                                   (9, ((1, 1), (3, 2), (8, 3)), None)):
            one = Standing(LINE, ("sum", (1,), 1, ALL), spare=spare)
            self.same((one.kept(), one.limit(), one.answer(), one.refills()), (kept, limit, ((1, 1),), 0))
        one = Standing({}, ("sum", (1,), 1, ALL))
        self.same((one.kept(), one.limit(), one.answer(), one.refills()), ((), None, (), 0))

    def test_what_matters(self):
        one = Standing(LINE, ("sum", (1,), 1, ("not", ("has", "a"))), spare=1)
        for deed, wanted in ((("take", 1), True), (("take", 2), True), (("take", 3), False), (("take", 9), False),
                             (("put", (9, (4,), ())), False), (("put", (0, (4,), ())), True),
                             (("put", (9, (3,), ())), True), (("put", (9, (3,), (("a", 1),))), False),
                             (("put", (2, (99,), (("a", 1),))), True), (("put", (3, (99,), ())), False)):
            self.assertIs(one.matters(deed=deed), wanted)
        # Without a limit each pair matters, but nothing else.
        one = Standing(LINE, ("sum", (1,), 4, ("not", ("has", "a"))))
        self.assertIs(one.matters(("put", (9, (9999,), ()))), True)
        self.assertIs(one.matters(("put", (9, (0,), (("a", 1),)))), False)
        self.assertIs(one.matters(("take", 9)), False)

    def test_a_pair_that_is_the_limit(self):
        one = Standing(LINE, ("sum", (1,), 1, ALL), spare=1)
        self.same(one.told(("put", (2, (-2,), ())), None), ((), ()))
        self.same((one.kept(), one.limit()), (((1, 1), (3, 2)), (3, 2)))
        self.same(one.told(("put", (0, (4,), ())), None), ((), ()))
        self.same((one.kept(), one.limit()), (((1, 1), (3, 0)), (3, 0)))

    def test_the_state_is_looked_at_only_to_fill(self):
        for odd in (None, 1, "state", [], Awkward()):
            one = Standing(LINE, ("sum", (1,), 1, ALL), spare=1)
            self.same(one.told(("put", (9, (99,), ())), odd), ((), ()))
            self.same(one.told(deed=("take", 2), state=odd), ((), ()))
            self.same((one.kept(), one.limit(), one.refills()), (((1, 1),), (3, 2), 0))
            # What was beyond the limit may have become the second one.
            self.same(one.told(("put", (4, (1,), ())), odd), (((1, 1),), ((0, 4),)))
            one = Standing(LINE, ("sum", (1,), 5, ALL))
            for key in (1, 2, 3):
                one.told(("take", key), odd)
            self.same((one.answer(), one.limit(), one.refills()), ((), None, 0))

    def test_equal_distances_and_vectors(self):
        state = state_of(((1, (0,), ()), (2, (0,), ()), (3, (2,), ())))
        one = Standing(state, ("sum", (1,), 2, ALL))
        self.same(one.answer(), ((1, 1), (1, 2)))
        state = done(state, ("take", 1))
        self.same(one.told(("take", 1), state), (((1, 1),), ((1, 3),)))
        self.same(one.told(("put", (1, (2,), ())), None), (((1, 3),), ((1, 1),)))
        self.same(one.told(("put", (1, (0,), (("a", 3),))), None), ((), ()))

    def test_later_changes_of_the_state_have_no_effect(self):
        state = dict(LINE)
        one = Standing(state, ("sum", (1,), 2, ALL))
        state.clear()
        self.same(one.answer(), ((1, 1), (3, 2)))
        near = dict(LINE)
        two = Nearby(near, "sum", (1,), 3, ALL)
        near.clear()
        self.same(two.kept(), ((1, 1), (3, 2)))

    def test_by_the_words(self):
        draw = random.Random(89)
        refills, idle = 0, 0
        for _ in range(150):
            places, spare = draw.randint(1, 2), draw.choice((0, 0, 1, 2, 5))
            question = some_question(draw, places, 3)
            kind, vector, many, sieve = question
            state = some_state(draw, draw.randint(0, 6), places, 3)
            one, words = Standing(state, question, spare=spare), Words(state, question, spare)
            for count in range(1, 25):
                deed = some_deed(draw, 12, places)
                before, kept = answer_by_words(state, question), one.kept()
                matters = self.unchanged(one.matters, deed)
                self.assertIs(matters, words.matters(deed))
                pair = words.made(deed)
                state = done(state, deed)
                told = self.unchanged(one.told, deed, state if matters else None)
                self.same(told, words.told(deed, state))
                now = answer_by_words(state, question)
                self.same(one.answer(), now)
                self.same(told, differences_by_words(before, now))
                self.same((one.kept(), one.limit(), one.refills()), (tuple(words.kept), words.limit, words.refills))
                pairs = pairs_by_words(state, kind, vector, sieve)
                self.assertEqual(list(one.kept()), pairs[:len(one.kept())])
                others = pairs[len(one.kept()):]
                self.assertTrue(not others if one.limit() is None else all(other > one.limit() for other in others))
                if not matters:
                    self.same((one.kept(), now), (kept, before))
                    idle += 1
                if now != before:
                    key = deed[1] if deed[0] == "take" else deed[1][0]
                    self.assertTrue(key in [own[1] for own in before] or len(before) < many or
                                    (pair is not None and pair < before[-1]))
                self.assertLessEqual(one.refills(), count // (spare + 1))
            refills += one.refills()
        self.assertGreater(refills, 50)
        self.assertGreater(idle, 200)

    def test_between_two_fillings_the_spare_goes(self):
        for spare in (0, 1, 3):
            state = {key: (key, (key,), ()) for key in range(60)}
            one = Standing(state, ("sum", (0,), 2, ALL), spare=spare)
            for key in range(50):
                state = done(state, ("take", key))
                one.told(("take", key), state)
                self.same(one.refills(), (key + 1) // (spare + 1))
                self.same(one.answer(), ((key + 1, key + 1), (key + 2, key + 2)))


class NearbyTest(Case):

    def test_simple_ones(self):
        near = Nearby(state=LINE, kind="sum", vector=(1,), reach=3, sieve=ALL)
        self.same((near.kind, near.vector, near.reach, near.sieve), ("sum", (1,), 3, ALL))
        self.assertNotIn("state", vars(near))
        self.same(near.kept(), ((1, 1), (3, 2)))
        self.same(near.told(deed=("put", (9, (5,), ()))), ((), ()))
        self.same(near.told(("put", (9, (4,), ()))), ((), ((3, 9),)))
        self.same(near.told(("put", (9, (1,), ()))), (((3, 9),), ((0, 9),)))
        self.same(near.told(("put", (9, (1,), (("a", 1),)))), ((), ()))
        self.same(near.told(("put", (1, (9,), ()))), (((1, 1),), ()))
        self.same(near.told(("take", 3)), ((), ()))
        self.same(near.told(("take", 9)), (((0, 9),), ()))
        self.same(near.kept(), ((3, 2),))
        self.same(Nearby(LINE, "sum", (1,), -1, ALL).kept(), ())
        self.same(Nearby({}, "sum", (1,), 5, ALL).kept(), ())

    def test_by_the_words(self):
        draw = random.Random(92)
        changes = 0
        for _ in range(120):
            kind, places, reach = draw.choice(KINDS), draw.randint(1, 2), draw.choice((-1, 0, 1, 2, 4, 9))
            vector, sieve = some_vector(draw, places, 3), draw.choice((ALL, some_filter(draw, 2)))
            state = some_state(draw, draw.randint(0, 6), places, 3)
            near = Nearby(state, kind, vector, reach, sieve)
            for _ in range(20):
                before = near.kept()
                deed = some_deed(draw, 10, places)
                state = done(state, deed)
                told = self.unchanged(near.told, deed)
                now = tuple(pair for pair in pairs_by_words(state, kind, vector, sieve) if pair[0] <= reach)
                self.same(near.kept(), now)
                self.same(told, differences_by_words(before, now))
                changes += before != now
        self.assertGreater(changes, 100)


if __name__ == "__main__":
    unittest.main()
