"""[24], [25], [26], [27]: states and answers, found by looking at all items."""

import random
import unittest

from helper import (Awkward, Case, distance_by_words, odd_values, pairs_by_words, shuffled, some_filter, some_labels,
                    some_question, some_state, some_vector)
from nonearer.errors import Refused
from nonearer.filters import passes
from nonearer.plain import (answer_fault, count_within, deeds_between, done, done_all, first_of_all, is_state, last_deeds,
                            nearest, passing_keys, rank_of, reach_of, state_of, union_of, within)

ALL = ("all",)
DEEDS = (("put", (4, (1, 1), ())), ("put", (2, (0, 5), (("old", 3),))), ("take", 4), ("put", (7, (3, 1), ())))
STATE = {2: (2, (0, 5), (("old", 3),)), 7: (7, (3, 1), ())}
NEAR = ("sum", (0, 0), 1, ALL)


def some_deeds(draw, many, places=1):
    """Returns random deeds about a few keys."""
    deeds = []
    for _ in range(many):
        key = draw.randint(0, 4)
        item = (key, some_vector(draw, places, 1), some_labels(draw, "a", 0, 1))
        deeds.append(draw.choice((("put", item), ("take", key))))
    return tuple(deeds)


class StateTest(Case):

    def test_the_example(self):
        state = done_all({}, DEEDS)
        self.assertEqual(state, STATE)
        self.same(last_deeds(DEEDS)[1], ("take", 4))
        self.same(deeds_between(state, {7: state[7]}), (("take", 2),))

    def test_is_state(self):
        self.assertIs(is_state(STATE, 2), True)
        self.assertIs(is_state(value={}, places=3), True)
        self.assertIs(is_state(STATE, 1), False)
        for value in odd_values() + [(), tuple(STATE.items()), 1]:
            if not isinstance(value, dict) or value:
                self.assertIs(is_state(value, 2), False)
        item = STATE[2]
        for key in (3, -2, "2", None, (2,), True, 2.5):
            self.assertIs(is_state({key: item}, 2), False)
        self.assertIs(is_state({1: (True, (0, 5), ())}, 2), False)
        self.assertIs(is_state({True: (1, (0, 5), ())}, 2), False)
        self.assertIs(is_state({2.0: item}, 2), False)
        for odd in odd_values() + [item[:2], (2, (0,), ()), (2, (0, True), ()), (2, (0, 5), (("A", 1),)), list(item)]:
            self.assertIs(is_state({7: STATE[7], 2: odd}, 2), False)

    def test_deeds(self):
        for deeds in (DEEDS, DEEDS + (("put", (7, (9, 9), ())),), (("take", 3),), ()):
            state = dict(STATE)
            for deed in deeds:
                after = self.unchanged(done, state, deed)
                key = deed[1] if deed[0] == "take" else deed[1][0]
                self.assertEqual(after.get(key), None if deed[0] == "take" else deed[1])
                self.assertEqual({one: after[one] for one in after if one != key},
                                 {one: state[one] for one in state if one != key})
                state = after
            self.assertEqual(self.unchanged(done_all, STATE, deeds), state)
        self.assertEqual(done_all(state={}, deeds=()), {})
        self.assertEqual(done(state=STATE, deed=("take", 2)), {7: STATE[7]})

    def test_what_is_returned_is_new(self):
        for made in (done(STATE, ("take", 99)), done_all(STATE, ()), union_of((STATE,))):
            self.assertEqual(made, STATE)
            made.clear()
        self.assertEqual(len(STATE), 2)

    def test_states_of_items(self):
        one, other = (3, (0,), ()), (3, (5,), ())
        self.assertEqual(state_of(()), {})
        self.assertEqual(state_of(items=(one, (1, (2,), ()), other)), {3: other, 1: (1, (2,), ())})

    def test_last_deeds(self):
        self.same(last_deeds(()), ())
        self.same(last_deeds(deeds=DEEDS), (DEEDS[1], DEEDS[2], DEEDS[3]))
        draw = random.Random(24)
        for _ in range(300):
            one, other = some_deeds(draw, draw.randint(0, 6)), some_deeds(draw, draw.randint(0, 3))
            other = draw.choice((other, one[::-1], last_deeds(one)))
            state = some_state(draw, 3, 1, 1, "a")
            self.assertEqual(done_all(state, last_deeds(one)), done_all(state, one))
            every = [{}] + [{key: (key, (9,), ()) for key in range(5)}]
            equal = all(done_all(start, one) == done_all(start, other) for start in every)
            self.assertIs(last_deeds(one) == last_deeds(other), equal)

    def test_deeds_between(self):
        draw = random.Random(25)
        for _ in range(200):
            one = done_all({}, some_deeds(draw, 6))
            other = done_all(draw.choice((one, {})), some_deeds(draw, draw.randint(0, 6)))
            deeds = self.unchanged(deeds_between, one, other)
            self.assertEqual(done_all(one, deeds), other)
            keys = [deed[1] if deed[0] == "take" else deed[1][0] for deed in deeds]
            self.assertEqual(keys, [key for key in range(5) if one.get(key) != other.get(key)])
            self.same(deeds_between(shuffled(draw, one), shuffled(draw, other)), deeds)


class AnswerTest(Case):

    def test_the_example(self):
        self.same(nearest(STATE, NEAR), ((4, 7),))
        self.same(reach_of(STATE, NEAR), 4)
        self.same(nearest(STATE, ("square", (0, 0), 5, ("not", ("has", "old")))), ((10, 7),))

    def test_no_items(self):
        self.same(nearest({}, NEAR), ())
        self.assertIsNone(reach_of({}, NEAR))
        self.same(within({}, "sum", (0, 0), 9, ALL), ())
        self.same(count_within({}, "sum", (0, 0), 9, ALL), 0)
        self.same(passing_keys({}, ALL), ())
        self.assertIsNone(rank_of({}, NEAR, 1))

    def test_just_as_many_as_asked_for(self):
        for many, reach in ((1, 4), (2, 5), (3, None), (400, None)):
            self.assertEqual(reach_of(state=STATE, question=("sum", (0, 0), many, ALL)), reach)
            self.assertEqual(len(nearest(state=STATE, question=("sum", (0, 0), many, ALL))), min(many, 2))

    def test_reaches(self):
        for reach, wanted in ((-1, ()), (3, ()), (4, ((4, 7),)), (5, ((4, 7), (5, 2))), (99, ((4, 7), (5, 2)))):
            self.same(within(state=STATE, kind="sum", vector=(0, 0), reach=reach, sieve=ALL), wanted)
            self.same(count_within(state=STATE, kind="sum", vector=(0, 0), reach=reach, sieve=ALL), len(wanted))
        state = {1: (1, (0, 0), ())}
        self.same(within(state, "sum", (0, 0), -1, ALL), ())
        self.same(within(state, "sum", (0, 0), 0, ALL), ((0, 1),))

    def test_ranks(self):
        state = {key: (key, (0,), ()) for key in (3, 5, 9)}
        self.assertEqual([rank_of(state, ("sum", (0,), 1, ALL), key) for key in (3, 5, 9, 4)], [0, 1, 2, None])
        self.assertIsNone(rank_of(state=STATE, question=("sum", (0, 0), 1, ("has", "old")), key=7))

    def test_by_the_words(self):
        draw = random.Random(26)
        for _ in range(300):
            places = draw.randint(1, 3)
            state, question = some_state(draw, draw.randint(0, 9), places, 3), some_question(draw, places)
            kind, vector, many, sieve = question
            pairs = pairs_by_words(state, kind, vector, sieve)
            answer = self.unchanged(nearest, state, question)
            self.same(answer, tuple(pairs[:many]))
            self.same(nearest(shuffled(draw, state), question), answer)
            self.same(passing_keys(state=state, sieve=sieve), tuple(sorted(key for _, key in pairs)))
            reach = reach_of(state, question)
            self.assertEqual(reach, answer[-1][0] if len(answer) == many else None)
            for own in {-1, 0, 3, draw.randint(0, 30), reach or 0}:
                near = tuple(pair for pair in pairs if pair[0] <= own)
                self.same(self.unchanged(within, state, kind, vector, own, sieve), near)
                self.same(count_within(state, kind, vector, own, sieve), len(near))
            if reach is not None:
                near = within(state, kind, vector, reach, sieve)
                self.same(near[:many], answer)
                self.assertTrue(all(away == reach for away, _ in near[many:]))
            for key in range(60):
                rank = rank_of(state, question, key)
                own = [at for at, pair in enumerate(pairs) if pair[1] == key]
                self.assertEqual(rank, own[0] if own else None)
                self.assertEqual(rank is not None and rank < many, key in [one for _, one in answer])


class SeveralTest(Case):

    def test_unions(self):
        one, two = {1: (1, (0,), ())}, {2: (2, (0,), ())}
        self.assertEqual(union_of(()), {})
        self.assertEqual(union_of(states=(one, {}, two)), {1: one[1], 2: two[2]})
        self.refuses(Refused("key"), union_of, (one, two, {1: (1, (0,), ())}))
        self.refuses(Refused("key"), union_of, (one, {1: (1, (5,), ())}))

    def test_first_of_all(self):
        self.same(first_of_all((), 3), ())
        self.same(first_of_all(answers=(((4, 7),), (), ((1, 9), (4, 2))), many=2), ((1, 9), (4, 2)))
        self.same(first_of_all((((4, 7),), ((1, 9), (4, 2))), 5), ((1, 9), (4, 2), (4, 7)))

    def test_answers_of_several_states_and_filters(self):
        draw = random.Random(27)
        for _ in range(150):
            state, question = some_state(draw, 9, 2, 3), some_question(draw, 2)
            kind, vector, many, sieve = question
            states = [{}, {}, {}]
            for key in state:
                draw.choice(states)[key] = state[key]
            draw.shuffle(states)
            self.assertEqual(self.unchanged(union_of, tuple(states)), state)
            answers = tuple(nearest(one, question) for one in states)
            self.same(self.unchanged(first_of_all, answers, many), nearest(state, question))
            other = some_filter(draw, 2)
            parts = [("and", sieve, other), ("and", sieve, ("not", other))]
            answers = tuple(nearest(state, (kind, vector, many, part)) for part in parts)
            self.same(first_of_all(answers, many), nearest(state, question))

    def test_which_deeds_change_an_answer(self):
        draw = random.Random(28)
        changed = 0
        for _ in range(400):
            state, question = done_all({}, some_deeds(draw, 8)), some_question(draw, 1, 3)
            deed = some_deeds(draw, 1)[0]
            before, after = nearest(state, question), nearest(done(state, deed), question)
            if before != after:
                changed += 1
                key = deed[1] if deed[0] == "take" else deed[1][0]
                pair = None
                if deed[0] == "put" and passes(question[3], deed[1]):
                    pair = (distance_by_words(question[0], question[1], deed[1][1]), key)
                self.assertTrue(key in [one for _, one in before] or len(before) < question[2] or
                                (pair is not None and pair < before[-1]))
        self.assertGreater(changed, 40)


class FaultTest(Case):

    def test_the_example(self):
        self.same(answer_fault(STATE, NEAR, ((5, 2),)), ("missing", 7))
        self.same(answer_fault(STATE, NEAR, ((4, 7), (5, 2))), ("many", 2))
        self.same(answer_fault(STATE, NEAR, []), ("form", -1))
        self.assertIsNone(answer_fault(state=STATE, question=NEAR, value=((4, 7),)))

    def test_no_tuples_of_pairs(self):
        for value in odd_values() + [[(4, 7)], "ab", 4]:
            self.same(answer_fault(STATE, NEAR, value), ("form", -1))
        pairs = odd_values() + [(), (4,), (4, 7, 1), [4, 7], (4, True), (True, 7), (4.0, 7), (-1, 7), (4, -7), "47", 4]
        for pair in pairs:
            self.same(answer_fault(STATE, NEAR, (pair,)), ("form", 0))
            self.same(answer_fault(STATE, NEAR, ((9, 9), pair, pair)), ("form", 1))
        for odd in odd_values():
            self.same(answer_fault(STATE, NEAR, ((odd, 7),)), ("form", 0))
            self.same(answer_fault(STATE, NEAR, ((4, odd),)), ("form", 0))

    def test_each_fault_and_their_sequence(self):
        two = ("sum", (0, 0), 2, ALL)
        self.same(answer_fault(STATE, two, ((4, 7), (4, 2))), ("pair", 1))
        self.same(answer_fault(STATE, two, ((4, 8),)), ("pair", 0))
        self.same(answer_fault(STATE, ("sum", (0, 0), 2, ("has", "old")), ((4, 7),)), ("pair", 0))
        self.same(answer_fault(STATE, two, ((5, 2), (4, 7))), ("order", 1))
        self.same(answer_fault(STATE, two, ((4, 7), (4, 7))), ("order", 1))
        self.same(answer_fault(STATE, two, ((5, 2), (4, 7), (9, 9))), ("pair", 2))
        self.same(answer_fault(STATE, two, ((5, 2), (4, 7), (4, 7))), ("order", 1))
        self.same(answer_fault(STATE, two, ((4, 7), (5, 2), (5, 2))), ("order", 2))
        self.same(answer_fault(STATE, two, ()), ("missing", 7))
        self.same(answer_fault(STATE, two, ((4, 7),)), ("missing", 2))
        self.same(answer_fault(STATE, ("sum", (0, 0), 9, ALL), ((5, 2),)), ("missing", 7))
        self.assertIsNone(answer_fault({}, two, ()))
        self.same(answer_fault({}, two, Awkward()), ("form", -1))

    def test_just_the_answer_has_no_fault(self):
        draw = random.Random(29)
        found = {}
        for _ in range(600):
            state, question = some_state(draw, draw.randint(0, 5), 1, 2), some_question(draw, 1, 4)
            answer = nearest(state, question)
            pairs = pairs_by_words(state, question[0], question[1], ALL)
            value = draw.choice((answer, answer[:-1], answer[1:], tuple(pairs), tuple(pairs[:question[2]]), answer[::-1],
                                 tuple(draw.sample(pairs, draw.randint(0, len(pairs)))), answer + answer[-1:],
                                 tuple((away + draw.randint(0, 1), key) for away, key in answer)))
            fault = self.unchanged(answer_fault, state, question, value)
            self.assertIs(fault is None, value == answer)
            found[fault and fault[0]] = found.get(fault and fault[0], 0) + 1
        self.assertEqual(set(found), {None, "pair", "order", "many", "missing"})


if __name__ == "__main__":
    unittest.main()
