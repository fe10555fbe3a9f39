"""[56]: scans of items by their codes."""

import itertools
import random
import unittest

from helper import (ALL, KINDS, Case, answer_by_words, distance_by_words, odd_values, pairs_by_words, some_filter,
                    some_state, some_vector)
from nonearer.codes import coded, coder_of, widened
from nonearer.filters import passes
from nonearer.scans import Scan, floor_pairs, is_scan, scan

STATE = {1: (1, (0, 0), ()), 2: (2, (3, 0), ()), 3: (3, (9, 9), (("new", 4),)), 4: (4, (2, 0), ()), 5: (5, (3, 0), ())}
CODER = (((0, 3), (9, 9)), ((0, 0), (9, 9)))
CODES = coded(CODER, STATE)
QUESTION = ("sum", (5, 0), 2, ALL)


class Likeness:
    """What is no scan, but has its attributes."""

    def __init__(self, answer, chosen):
        self.answer = answer
        self.chosen = chosen


def floors_by_words(coder, codes, state, question):
    """Returns the ascending tuple of the pairs of the floor of its code and the key of all items that pass."""
    kind, vector, _, sieve = question
    pairs = []
    for key, item in state.items():
        if passes(sieve, item):
            nearest = [min(max(integer, ladder[number][0]), ladder[number][1])
                       for integer, ladder, number in zip(vector, coder, codes[key])]
            pairs.append((distance_by_words(kind, nearest, vector), key))
    return tuple(sorted(pairs))


def is_right_by_words(coder, codes, state, question, answer, chosen):
    """Returns whether an answer and a lot of keys of items that pass make a right scan, as [56] says."""
    kind, vector, many, sieve = question
    if answer != tuple(pairs_by_words({key: state[key] for key in chosen}, kind, vector, sieve)[:many]):
        return False
    others = [pair for pair in floors_by_words(coder, codes, state, question) if pair[1] not in chosen]
    return not others or (len(answer) == many and all(pair > answer[-1] for pair in others))


def some_case(draw, most):
    """Returns a random coder, codes, state and question."""
    places = draw.randint(1, 2)
    state = some_state(draw, draw.randint(0, most), places, 3)
    vectors = tuple(item[1] for item in state.values()) + (some_vector(draw, places, 3),)
    coder = coder_of(vectors, draw.choice((1, 2, 3, 99)))
    if draw.randint(0, 1):
        coder = widened(coder, some_vector(draw, places, 6))
    question = draw.choice(KINDS), some_vector(draw, places, 5), draw.randint(1, 4), draw.choice((ALL, some_filter(draw, 2)))
    return coder, coded(coder, state), state, question


class FloorTest(Case):

    def test_simple_ones(self):
        self.same(floor_pairs(coder=CODER, codes=CODES, state=STATE, question=QUESTION),
                  ((2, 1), (2, 2), (2, 4), (2, 5), (13, 3)))
        self.same(floor_pairs(CODER, CODES, STATE, ("sum", (5, 0), 1, ("has", "new"))), ((13, 3),))
        self.same(floor_pairs(CODER, CODES, STATE, ("sum", (5, 0), 1, ("not", ALL))), ())
        self.same(floor_pairs(CODER, {}, {}, QUESTION), ())

    def test_by_the_words(self):
        draw = random.Random(56)
        for _ in range(300):
            case = some_case(draw, 8)
            self.same(self.unchanged(floor_pairs, *case), floors_by_words(*case))


class ScanTest(Case):

    def test_simple_ones(self):
        one = scan(coder=CODER, codes=CODES, state=STATE, question=QUESTION)
        self.assertIs(one.__class__, Scan)
        self.same((one.answer, one.chosen), (((2, 2), (2, 5)), (1, 2, 4, 5)))
        self.assertIs(is_scan(coder=CODER, codes=CODES, state=STATE, question=QUESTION, value=one), True)
        # The pair of key 4 is above that of key 2, so one pair is sure before it is looked at.
        one = scan(CODER, CODES, STATE, ("sum", (5, 0), 1, ALL))
        self.same((one.answer, one.chosen), (((2, 2),), (1, 2)))
        one = scan(CODER, CODES, STATE, ("sum", (5, 0), 9, ALL))
        self.same((one.answer[-1], one.chosen), ((13, 3), (1, 2, 3, 4, 5)))
        one = scan(CODER, {}, {}, QUESTION)
        self.same((one.answer, one.chosen), ((), ()))
        self.assertTrue(is_scan(CODER, {}, {}, QUESTION, one))

    def test_the_arguments_are_kept(self):
        for odd in odd_values():
            self.assertIs(Scan(odd, None).answer, odd)
            self.assertIs(Scan(None, odd).chosen, odd)
        one = Scan(chosen=(1,), answer=((0, 1),))
        self.same((one.answer, one.chosen), (((0, 1),), (1,)))

    def test_right_ones(self):
        answer = ((2, 2), (2, 5))
        for chosen, is_right in (((1, 2, 4, 5), True), ((1, 2, 3, 4, 5), True), ((2, 4, 5), False), ((1, 2, 5), False),
                                 ((1, 2, 3, 5), False), ((2, 5), False), ((), False)):
            self.assertIs(is_scan(CODER, CODES, STATE, QUESTION, Scan(answer, chosen)), is_right)
        every = (1, 2, 3, 4, 5)
        for wrong in ((), ((2, 2),), ((2, 2), (3, 4)), ((2, 5), (2, 2)), ((2, 2), (2, 5), (3, 4)), ((1, 2), (2, 5))):
            self.assertIs(is_scan(CODER, CODES, STATE, QUESTION, Scan(wrong, every)), False)
        # An answer that is not full needs all items that pass.
        question = ("sum", (5, 0), 9, ("not", ("has", "new")))
        answer = ((2, 2), (2, 5), (3, 4), (5, 1))
        self.assertIs(is_scan(CODER, CODES, STATE, question, Scan(answer, (1, 2, 4, 5))), True)
        self.assertIs(is_scan(CODER, CODES, STATE, question, Scan(answer[:3], (2, 4, 5))), False)
        self.assertIs(is_scan(CODER, CODES, STATE, question, Scan(answer, every)), False)
        # What does not pass is not chosen, even if it is too far to matter.
        question = ("sum", (5, 0), 1, ("not", ("has", "new")))
        self.assertIs(is_scan(CODER, CODES, STATE, question, Scan(((2, 2),), (1, 2))), True)
        self.assertIs(is_scan(CODER, CODES, STATE, question, Scan(((2, 2),), (1, 2, 3))), False)

    def test_any_value(self):
        answer, chosen = ((2, 2), (2, 5)), (1, 2, 4, 5)
        for value in odd_values() + [(answer, chosen), Likeness(answer, chosen), "no", 0]:
            self.assertIs(is_scan(CODER, CODES, STATE, QUESTION, value), False)
        for odd in odd_values() + ["no", 0, [1, 2, 4, 5], (1, 2, 5, 4), (1, 1, 2, 4, 5), (1, 2, 4, 5, 6), (True, 2, 4, 5),
                                   (1, 2, 4, 5.0), (1, 2, 4, "5"), (-1, 1, 2, 4, 5), (1, 2, 4, (5,))]:
            self.assertIs(is_scan(CODER, CODES, STATE, QUESTION, Scan(answer, odd)), False)
            self.assertIs(is_scan(CODER, CODES, STATE, QUESTION, Scan(None, odd)), False)
        for odd in odd_values() + ["no", 0, list(answer), ((2, 2), [2, 5]), ((2.0, 2), (2, 5)), ((2, 2), (2, 5, 0)), (2, 5)]:
            self.assertIs(is_scan(CODER, CODES, STATE, QUESTION, Scan(odd, chosen)), False)
        state = {1: (1, (1,), ())}
        self.assertIs(is_scan((((1, 1),),), {1: (0,)}, state, ("sum", (0,), 1, ALL), Scan(((1, 1),), (1,))), True)
        self.assertIs(is_scan((((1, 1),),), {1: (0,)}, state, ("sum", (0,), 1, ALL), Scan(((True, 1),), (1,))), False)

    def test_one_interval_a_place(self):
        coder = coder_of(tuple(item[1] for item in STATE.values()), 1)
        codes = coded(coder, STATE)
        self.assertEqual(set(codes.values()), {(0, 0)})
        one = scan(coder, codes, STATE, ("sum", (5, 0), 1, ALL))
        self.same((one.answer, one.chosen), (((2, 2),), (1, 2, 3, 4, 5)))
        one = scan(coder, codes, STATE, ("sum", (0, 0), 1, ALL))
        self.same((one.answer, one.chosen), (((0, 1),), (1,)))

    def test_by_the_words(self):
        draw = random.Random(57)
        spared = 0
        for _ in range(200):
            coder, codes, state, question = some_case(draw, 6)
            one = self.unchanged(scan, coder, codes, state, question)
            self.same(one.answer, answer_by_words(state, question))
            passing = sorted(key for key in state if passes(question[3], state[key]))
            spared += len(one.chosen) < len(passing)
            right = []
            for many in range(len(passing) + 1):
                for chosen in itertools.combinations(passing, many):
                    seen = pairs_by_words({key: state[key] for key in chosen}, question[0], question[1], question[3])
                    answer = tuple(seen[:question[2]])
                    is_right = is_right_by_words(coder, codes, state, question, answer, chosen)
                    self.assertIs(is_scan(coder, codes, state, question, Scan(answer, chosen)), is_right)
                    if is_right:
                        right.append(chosen)
                        self.same(answer, one.answer)
                        self.assertLessEqual(set(one.chosen), set(chosen))
                    self.assertFalse(answer and is_scan(coder, codes, state, question, Scan(answer[:-1], chosen)))
            self.assertIn(one.chosen, right)
        self.assertGreater(spared, 50)


if __name__ == "__main__":
    unittest.main()
