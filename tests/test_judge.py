"""[49], [50], [51], [52], [53], as far as they are about nonearer/judge.py."""

import random
import unittest

from helper import (ALL, FORMS, KINDS, WORDS, Case, all_right_by_words, answer_by_words, keys_by_words, keys_looked_at,
                    met_by_words, odd_values, pairs_by_words, some_case, some_index, some_question, some_state,
                    step_fault_by_words)
from nonearer.building import built
from nonearer.filters import passes
from nonearer.judge import (first_fault, is_right, is_within_paper, shorter, tied, why_not, within_fault)
from nonearer.lots import Index
from nonearer.papers import Paper, fewer, paper_of, within_paper

NEAR = (("box", (0, 0), (3, 0)), (2, ()), ("items", (1, 2)))
FAR = (("box", (9, 9), (9, 9)), (1, (("new", 1, 4, 4),)), ("items", (3,)))
INDEX = Index("sum", "boxes", (("box", (0, 0), (9, 9)), (3, (("new", 1, 4, 4),)), ("lots", (NEAR, FAR))), 2)
STATE = {1: (1, (0, 0), ()), 2: (2, (3, 0), ()), 3: (3, (9, 9), (("new", 4),))}
QUESTION = ("sum", (1, 0), 2, ALL)
ANSWER = ((1, 1), (2, 2))
STEPS = ("open", "open", "far")


class Likeness:
    """What is no paper, but has its attributes."""

    def __init__(self, answer, steps):
        self.answer = answer
        self.steps = steps


def wrong_answers():
    """Returns values that are no ascending tuples of at most two pairs of numbers."""
    pairs = [(1,), (1, 1, 1), [1, 1], (1, -1), (-1, 1), (True, 1), (1, True), (1.0, 1), ("1", 1), 1, "ab", None]
    wrong = [(pair, (2, 2)) for pair in pairs] + [((1, 1), pair) for pair in pairs]
    return odd_values() + wrong + [((2, 2), (1, 1)), ((1, 1), (1, 1)), ((1, 1), (2, 2), (17, 3)), [(1, 1), (2, 2)], "no", 0]


def some_paper(draw, index, kind, vector, sieve, answer, reach):
    """Returns a random paper that is right, or nearly so."""
    steps = draw.choice(all_right_by_words(index, kind, vector, sieve, reach))
    if draw.randint(0, 1):
        at = draw.randrange(len(steps))
        steps = draw.choice((steps[:at], steps[:at] + (draw.choice(WORDS),) + steps[at + 1:], steps + ("open",),
                             steps[:at] + steps[at + 1:]))
    if answer and draw.randint(0, 2) == 0:
        at = draw.randrange(len(answer))
        away, key = answer[at]
        answer = draw.choice((answer[:at] + answer[at + 1:], answer[:at] + ((away + 1, key),) + answer[at + 1:],
                              answer[:-1], answer[1:], answer[::-1], answer + ((away + 9, key),)))
    return Paper(answer, steps)


def fault_by_words(index, state, question, value, reach, wanted):
    """Returns the first fault of a paper whose answer is a tuple of pairs; `wanted` makes the answer of what was seen."""
    kind, vector, _, sieve = question
    if list(value.answer) != sorted(set(value.answer)):
        return "answer", 0
    at = step_fault_by_words(all_right_by_words(index, kind, vector, sieve, reach), value.steps)
    if at is not None:
        return "step", at
    seen = {key: state[key] for key in keys_looked_at(index, value.steps)}
    return None if value.answer == wanted(pairs_by_words(seen, kind, vector, sieve)) else ("answer", 1)


class FirstFaultTest(Case):

    def test_right_ones(self):
        for steps in (STEPS, ("open", "open", "open")):
            self.assertIsNone(first_fault(INDEX, STATE, QUESTION, Paper(ANSWER, steps)))
            self.assertIs(is_right(INDEX, STATE, QUESTION, Paper(ANSWER, steps)), True)
        paper = Paper(((1, 1), (2, 2), (17, 3)), ("open", "open", "open"))
        self.assertIsNone(first_fault(index=INDEX, state=STATE, question=("sum", (1, 0), 4, ALL), value=paper))
        self.assertIs(is_right(index=INDEX, state=STATE, question=("sum", (1, 0), 4, ALL), value=paper), True)

    def test_no_paper(self):
        for value in odd_values() + [(ANSWER, STEPS), "paper", 1, Likeness(ANSWER, STEPS), INDEX]:
            self.same(first_fault(INDEX, STATE, QUESTION, value), ("kind", 0))
            self.assertIs(is_right(INDEX, STATE, QUESTION, value), False)

    def test_another_kind(self):
        for kind in ("square", "most", "unlike"):
            self.same(first_fault(INDEX, STATE, (kind, (1, 0), 2, ALL), Paper(ANSWER, STEPS)), ("kind", 0))
            self.same(first_fault(INDEX, STATE, (kind, (1, 0), 2, ALL), Paper(None, None)), ("kind", 0))

    def test_wrong_answers(self):
        for answer in wrong_answers():
            self.same(first_fault(INDEX, STATE, QUESTION, Paper(answer, STEPS)), ("answer", 0))
            self.same(first_fault(INDEX, STATE, QUESTION, Paper(answer, None)), ("answer", 0))

    def test_wrong_steps(self):
        for steps in odd_values() + [list(STEPS), "open", 0]:
            self.same(first_fault(INDEX, STATE, QUESTION, Paper(ANSWER, steps)), ("step", -1))
            self.same(first_fault(INDEX, STATE, QUESTION, Paper(((0, 9),), steps)), ("step", -1))
        for at in range(3):
            for odd in odd_values() + ["", "Open", "empty", "barred", ("open",), 0]:
                self.same(first_fault(INDEX, STATE, QUESTION, Paper(ANSWER, STEPS[:at] + (odd,) + STEPS[at + 1:])),
                          ("step", at))
        for steps, at in (((), 0), (STEPS[:2], 2), (STEPS + ("far",), 3), (("far",) * 3, 0), (("open", "far", "far"), 1)):
            self.same(first_fault(INDEX, STATE, QUESTION, Paper(ANSWER, steps)), ("step", at))
        # The reach is that of the answer that is told: what is not full has none, and nothing is far then.
        self.same(first_fault(INDEX, STATE, QUESTION, Paper(((1, 1),), STEPS)), ("step", 2))
        self.same(first_fault(INDEX, STATE, QUESTION, Paper(((1, 1), (17, 3)), STEPS)), ("step", 2))

    def test_answers_that_are_not_what_was_seen(self):
        for answer in (((1, 1), (3, 2)), ((1, 2), (2, 1)), ((0, 1), (2, 2)), ((1, 1), (16, 3))):
            self.same(first_fault(INDEX, STATE, QUESTION, Paper(answer, STEPS)), ("answer", 1))
        for answer in ((), ((1, 1),), ((2, 2),), ((1, 1), (17, 3)), ((2, 2), (17, 3))):
            self.same(first_fault(INDEX, STATE, QUESTION, Paper(answer, ("open",) * 3)), ("answer", 1))

    def test_a_state_without_items_and_with_one(self):
        for form in FORMS:
            index = built({}, "sum", form, room=1)
            for word in ("empty", "barred", "open"):
                self.assertIsNone(first_fault(index, {}, QUESTION, Paper((), (word,))))
            self.same(first_fault(index, {}, QUESTION, Paper((), ("far",))), ("step", 0))
            self.same(first_fault(index, {}, QUESTION, Paper(((0, 1),), ("empty",))), ("answer", 1))
            index = built({3: STATE[3]}, "sum", form, room=1)
            self.assertIsNone(first_fault(index, {3: STATE[3]}, QUESTION, Paper(((17, 3),), ("open",))))
            self.same(first_fault(index, {3: STATE[3]}, QUESTION, Paper((), ("open",))), ("answer", 1))
            self.same(first_fault(index, {3: STATE[3]}, QUESTION, Paper((), ("empty",))), ("step", 0))

    def test_only_items_of_opened_lots_are_looked_at(self):
        state = {1: STATE[1], 2: STATE[2]}
        self.assertIsNone(first_fault(INDEX, state, QUESTION, Paper(ANSWER, STEPS)))

    def test_by_the_words(self):
        draw = random.Random(60)
        faults = set()
        for _ in range(500):
            question = some_question(draw, draw.randint(1, 2), 4)
            kind, vector, many, sieve = question
            state = some_state(draw, draw.randint(0, 7), len(vector), 2)
            index = some_index(draw, state, kind, draw.choice(FORMS))
            answer = answer_by_words(state, question)
            value = some_paper(draw, index, kind, vector, sieve, answer, answer[-1][0] if len(answer) == many else None)
            reach = value.answer[-1][0] if len(value.answer) == many else None
            wanted = fault_by_words(index, state, question, value, reach, lambda pairs: tuple(pairs[:many]))
            if len(value.answer) > many:
                wanted = ("answer", 0)
            fault = self.unchanged(first_fault, index, state, question, value)
            self.assertEqual(fault, wanted)
            self.assertIs(is_right(index, state, question, value), fault is None)
            if fault is None:
                self.same(value.answer, answer)
            faults.add(fault and (fault[0], min(fault[1], 1)))
        self.assertEqual(faults, {None, ("answer", 0), ("answer", 1), ("step", 0), ("step", 1)})


class ShorterTest(Case):

    def test_shorter(self):
        paper = shorter(index=INDEX, question=QUESTION, paper=Paper(ANSWER, ("open",) * 3))
        self.assertIs(paper.__class__, Paper)
        self.same((paper.answer, paper.steps), (ANSWER, STEPS))
        draw = random.Random(61)
        for _ in range(150):
            question = some_question(draw, 2, 4)
            kind, vector, many, sieve = question
            state = some_state(draw, draw.randint(0, 7), 2)
            index = some_index(draw, state, kind, draw.choice(FORMS))
            answer = answer_by_words(state, question)
            reach = answer[-1][0] if len(answer) == many else None
            right = all_right_by_words(index, kind, vector, sieve, reach)
            paper = self.unchanged(shorter, index, question, Paper(answer, draw.choice(right)))
            least = paper_of(index, question, answer)
            self.same((paper.answer, paper.steps), (answer, least.steps))
            self.assertTrue(is_right(index, state, question, paper))
            self.assertEqual(len(paper.steps), min(len(steps) for steps in right))

    def test_fewer_are_right(self):
        draw = random.Random(62)
        tried = 0
        for _ in range(150):
            question = some_question(draw, 2, 5)
            state = some_state(draw, draw.randint(1, 9), 2)
            index = some_index(draw, state, question[0], draw.choice(FORMS))
            paper = paper_of(index, question, answer_by_words(state, question))
            for many in range(1, len(paper.answer) + 1):
                less = question[:2] + (many,) + question[3:]
                self.assertTrue(is_right(index, state, less, fewer(paper, many)))
                tried += 1
        self.assertGreater(tried, 100)


class TiedTest(Case):

    def test_simple_ones(self):
        state = {key: (key, (place,), ()) for key, place in ((1, 0), (2, 2), (3, -2), (4, 2), (5, 7))}
        index = built(state, "sum", "boxes", room=1)
        for many, wanted in ((1, ()), (2, ((2, 3), (2, 4))), (3, ((2, 4),)), (4, ()), (5, ()), (6, ())):
            question = ("sum", (0,), many, ALL)
            paper = paper_of(index, question, answer_by_words(state, question))
            self.same(tied(index=index, state=state, question=question, paper=paper), wanted)
        self.same(tied(built({}, "sum", "balls", room=1), {}, ("sum", (0,), 1, ALL), Paper((), ("empty",))), ())

    def test_by_the_words(self):
        draw = random.Random(63)
        ties = 0
        for _ in range(300):
            question = some_question(draw, draw.randint(1, 2), 5)
            kind, vector, many, sieve = question
            state = some_state(draw, draw.randint(0, 9), len(vector), 2)
            index = some_index(draw, state, kind, draw.choice(FORMS))
            answer = answer_by_words(state, question)
            reach = answer[-1][0] if len(answer) == many else None
            paper = Paper(answer, draw.choice(all_right_by_words(index, kind, vector, sieve, reach)[:50]))
            wanted = tuple(pair for pair in pairs_by_words(state, kind, vector, sieve)
                           if pair[0] == reach and pair not in answer)
            self.same(self.unchanged(tied, index, state, question, paper), wanted)
            ties += bool(wanted)
        self.assertGreater(ties, 30)


class WithinTest(Case):

    def test_right_ones(self):
        for reach, answer, steps in ((0, (), STEPS), (1, ((1, 1),), STEPS), (16, ANSWER, STEPS), (2, ANSWER, ("open",) * 3),
                                     (17, ANSWER + ((17, 3),), ("open",) * 3)):
            self.assertIsNone(within_fault(index=INDEX, state=STATE, kind="sum", vector=(1, 0), reach=reach, sieve=ALL,
                                           value=Paper(answer, steps)))
            self.assertIs(is_within_paper(index=INDEX, state=STATE, kind="sum", vector=(1, 0), reach=reach, sieve=ALL,
                                          value=Paper(answer, steps)), True)
        self.assertIsNone(within_fault(INDEX, STATE, "sum", (-9, 0), 8, ALL, Paper((), ("far",))))

    def test_wrong_ones(self):
        def fault(value, reach=2, kind="sum"):
            found = within_fault(INDEX, STATE, kind, (1, 0), reach, ALL, value)
            self.assertIs(is_within_paper(INDEX, STATE, kind, (1, 0), reach, ALL, value), found is None)
            return found

        for value in odd_values() + [(ANSWER, STEPS), Likeness(ANSWER, STEPS), 0]:
            self.same(fault(value), ("kind", 0))
        for kind in ("square", "most", "unlike"):
            self.same(fault(Paper(None, None), kind=kind), ("kind", 0))
        for answer in wrong_answers():
            # Only the length of an answer cannot be wrong here.
            if not isinstance(answer, tuple) or len(answer) < 3:
                self.same(fault(Paper(answer, STEPS)), ("answer", 0))
                self.same(fault(Paper(answer, 0)), ("answer", 0))
        for steps in odd_values() + ["far", 0]:
            self.same(fault(Paper((), steps)), ("step", -1))
        for steps, at in (((), 0), (STEPS[:2], 2), (STEPS + ("far",), 3), (("far",) * 3, 0), (("open", "open", None), 2)):
            self.same(fault(Paper((), steps)), ("step", at))
        self.same(fault(Paper(ANSWER, STEPS), 17), ("step", 2))
        for answer in ((), ((1, 1),), ((2, 2),), ANSWER + ((17, 3),), ((1, 1), (2, 3))):
            self.same(fault(Paper(answer, STEPS)), ("answer", 1))
            self.same(fault(Paper(answer, ("open",) * 3)), ("answer", 1))

    def test_by_the_words(self):
        draw = random.Random(64)
        faults = set()
        for _ in range(400):
            index, state, kind, vector, sieve, reach = some_case(draw)
            reach = reach or 0
            pairs = pairs_by_words(state, kind, vector, sieve)
            near = tuple(pair for pair in pairs if pair[0] <= reach)
            value = some_paper(draw, index, kind, vector, sieve, near, reach)
            wanted = fault_by_words(index, state, (kind, vector, None, sieve), value, reach,
                                    lambda seen: tuple(pair for pair in seen if pair[0] <= reach))
            fault = self.unchanged(within_fault, index, state, kind, vector, reach, sieve, value)
            self.assertEqual(fault, wanted)
            self.assertIs(is_within_paper(index, state, kind, vector, reach, sieve, value), fault is None)
            if fault is None:
                self.same(value.answer, near)
            faults.add(fault and fault[0])
            paper = within_paper(index, state, kind, vector, reach, sieve)
            self.assertIsNone(within_fault(index, state, kind, vector, reach, sieve, paper))
        self.assertEqual(faults, {None, "answer", "step"})

    def test_the_steps_of_a_full_answer_are_right_within_its_reach(self):
        draw = random.Random(65)
        for _ in range(150):
            question = some_question(draw, 2, 4)
            kind, vector, many, sieve = question
            state = some_state(draw, draw.randint(0, 8), 2)
            index = some_index(draw, state, kind, draw.choice(FORMS))
            answer = answer_by_words(state, question)
            if len(answer) == many:
                reach = answer[-1][0]
                near = tuple(pair for pair in pairs_by_words(state, kind, vector, sieve) if pair[0] <= reach)
                paper = Paper(near, draw.choice(all_right_by_words(index, kind, vector, sieve, reach)))
                self.assertTrue(is_within_paper(index, state, kind, vector, reach, sieve, paper))


class WhyNotTest(Case):

    def test_simple_ones(self):
        paper = Paper(ANSWER, STEPS)
        for key, wanted in ((1, ("answer", 0)), (2, ("answer", 1)), (3, ("beyond", 2)), (0, ("missing", 0)),
                            (4, ("missing", 0))):
            self.same(why_not(index=INDEX, state=STATE, question=QUESTION, paper=paper, key=key), wanted)
        question = ("sum", (1, 0), 2, ("has", "new"))
        self.same([why_not(INDEX, STATE, question, Paper(((17, 3),), ("open", "barred", "open")), key)
                   for key in (1, 2, 3)], [("barred", 1), ("barred", 1), ("answer", 0)])
        self.same([why_not(INDEX, STATE, question, Paper(((17, 3),), ("open", "open", "open")), key)
                   for key in (1, 2, 3)], [("barred", 1), ("barred", 1), ("answer", 0)])

    def test_by_the_words(self):
        draw = random.Random(66)
        words = set()
        for _ in range(200):
            question = some_question(draw, draw.randint(1, 2), 4, draw.choice(KINDS))
            kind, vector, many, sieve = question
            state = some_state(draw, draw.randint(0, 8), len(vector), 2)
            index = some_index(draw, state, kind, draw.choice(FORMS))
            answer = answer_by_words(state, question)
            reach = answer[-1][0] if len(answer) == many else None
            paper = Paper(answer, draw.choice(all_right_by_words(index, kind, vector, sieve, reach)[:50]))
            met = met_by_words(index.lot, paper.steps)[0]
            for key in list(state) + [10 ** 9]:
                word, number = self.unchanged(why_not, index, state, question, paper, key)
                words.add(word)
                if key not in state:
                    self.same((word, number), ("missing", 0))
                elif key in [pair[1] for pair in answer]:
                    self.same((word, number), ("answer", [pair[1] for pair in answer].index(key)))
                else:
                    self.same(word, "beyond" if passes(sieve, state[key]) else "barred")
                    self.same(number, [at for at, lot in enumerate(met) if key in keys_by_words(lot)][-1])
                if word == "beyond":
                    self.assertEqual(len(answer), many)
                    pair = [one for one in pairs_by_words(state, kind, vector, sieve) if one[1] == key][0]
                    self.assertGreater(pair, answer[-1])
        self.assertEqual(words, {"missing", "answer", "beyond", "barred"})


if __name__ == "__main__":
    unittest.main()
