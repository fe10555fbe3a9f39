"""[58], [59]: guesses, what they can be made into, and factors."""

import random
import unittest

from helper import (FORMS, KINDS, Case, odd_values, pairs_by_words, some_filter, some_index, some_question, some_state,
                    some_vector)
from nonearer.building import built
from nonearer.errors import InvalidNumber
from nonearer.guesses import bounded, is_factor, is_guess, is_loose, is_loose_paper, loose_paper
from nonearer.lots import Index, own_keys
from nonearer.papers import Paper, closing_word, looked, opened_lots, paper_of
from nonearer.regions import floor_of
from nonearer.summaries import may_pass
from nonearer.walks import graph_of, guess

ALL = ("all",)
STATE = {1: (1, (0, 0), ()), 2: (2, (3, 0), ()), 3: (3, (9, 9), (("new", 4),)), 4: (4, (8, 9), ())}
TWO = ("sum", (1, 0), 2, ALL)
INDEX = built(STATE, "sum", "boxes", room=2)
WORDS = ("empty", "barred", "far", "open")

WRONG_FACTORS = odd_values() + [(), (1,), (1, 1, 1), [1, 1], (0, 1), (1, 0), (0, 0), (-1, -1), (1, -1), (2, 3), (1, 2), 1,
                                (True, 1), (2, True), (1.0, 1), ("2", "1"), "21", (None, 1), (2, None)]


def is_loose_by_words(state, question, factor, value):
    """Returns whether a guess is loose for a factor, as [59] says."""
    kind, vector, many, sieve = question
    others = [pair for pair in pairs_by_words(state, kind, vector, sieve) if pair not in value]
    if not others:
        return True
    return len(value) == many and all(away * factor[0] >= value[-1][0] * factor[1] for away, _ in others)


def is_right_by_words(word, question, reach, factor, lot):
    """Returns whether a word is right for a lot, as [48] and [59] say."""
    if word == "empty":
        return lot[1][0] == 0
    if word == "barred":
        return not may_pass(question[3], lot[1])
    if word == "far":
        floor = floor_of(question[0], lot[0], question[1])
        return lot[1][0] > 0 and reach is not None and floor * factor[0] >= reach * factor[1]
    return word == "open"


def is_loose_paper_by_words(index, state, question, factor, paper):
    """Returns whether a paper of an ascending answer and a tuple of words is right for a factor."""
    kind, vector, many, sieve = question
    reach = paper.answer[-1][0] if len(paper.answer) == many else None
    waiting, keys = [index.lot], []
    for word in paper.steps:
        if not waiting:
            return False
        lot = waiting.pop(0)
        if not is_right_by_words(word, question, reach, factor, lot):
            return False
        if word == "open":
            waiting = list(lot[2][1]) + waiting if lot[2][0] == "lots" else waiting
            keys += own_keys(lot)
    pairs = pairs_by_words({key: state[key] for key in keys}, kind, vector, sieve)
    return not waiting and paper.answer == tuple(pairs[:many])


def some_guess(draw, state, question):
    """Returns a random guess, often a good one."""
    kind, vector, many, sieve = question
    pairs = pairs_by_words(state, kind, vector, sieve)
    near = pairs[:many + draw.randint(0, 2)]
    return tuple(sorted(draw.sample(near, min(len(near), draw.choice((many, many, draw.randint(0, many)))))))


def some_factor(draw):
    """Returns a random factor."""
    bottom = draw.randint(1, 5)
    return bottom + draw.choice((0, 0, 1, 2, 9)), bottom


class GuessTest(Case):

    def test_simple_ones(self):
        for value in ((), ((1, 1),), ((17, 3),), ((1, 1), (2, 2)), ((2, 2), (16, 4))):
            self.assertIs(is_guess(STATE, TWO, value), True)
        self.assertIs(is_guess(state={}, question=TWO, value=()), True)
        for value in (((1, 1), (2, 2), (16, 4)), ((2, 2), (1, 1)), ((1, 1), (1, 1)), ((2, 1),), ((1, 5),), ((1, 1), None),
                      [(1, 1)], ((1, 1, 1),), ([1, 1],), ((True, 1),), ((1, True),), ((1.0, 1),), ((1, -1),), 1):
            self.assertIs(is_guess(STATE, TWO, value), False)
        self.assertIs(is_guess(STATE, ("sum", (1, 0), 2, ("has", "new")), ((1, 1),)), False)
        for odd in odd_values():
            self.assertIs(is_guess(STATE, TWO, odd), False)
            self.assertIs(is_guess(STATE, TWO, (odd,)), False)
            self.assertIs(is_guess(STATE, TWO, ((odd, 1),)), False)
            self.assertIs(is_guess(STATE, TWO, ((1, odd),)), False)

    def test_what_walks_find_is_a_guess(self):
        draw = random.Random(58)
        for _ in range(150):
            question = some_question(draw, 2)
            state = some_state(draw, draw.randint(1, 9), 2)
            graph = graph_of(state, question[0], 2)
            for room in range(5):
                self.assertIs(is_guess(state, question, guess(state, graph, question, min(state), room)), True)


class BoundedTest(Case):

    def test_simple_ones(self):
        for pairs, steps in (((), ("open", "open", "far")), (((1, 1), (2, 2)), ("open", "open", "far")),
                             (((16, 4), (17, 3)), ("open", "open", "far"))):
            paper = bounded(index=INDEX, state=STATE, question=TWO, pairs=pairs)
            self.assertIs(paper.__class__, Paper)
            self.same((paper.answer, paper.steps), (((1, 1), (2, 2)), steps))
        paper = bounded(INDEX, STATE, ("sum", (9, 9), 1, ALL), ((0, 3),))
        self.same((paper.answer, paper.steps), (((0, 3),), ("open", "far", "open")))
        paper = bounded(INDEX, STATE, ("sum", (9, 9), 1, ALL), ())
        self.same((paper.answer, paper.steps), (((0, 3),), ("open", "open", "open")))

    def test_no_items_and_one(self):
        for form in FORMS:
            paper = bounded(built({}, "sum", form, room=1), {}, TWO, ())
            self.same((paper.answer, paper.steps), ((), ("empty",)))
            one = {7: (7, (3, 3), ())}
            for pairs in ((), ((5, 7),)):
                paper = bounded(built(one, "sum", form, room=1), one, TWO, pairs)
                self.same((paper.answer, paper.steps), (((5, 7),), ("open",)))

    def test_by_the_words(self):
        draw = random.Random(59)
        unlike = 0
        for _ in range(400):
            question = some_question(draw, draw.randint(1, 2), 4)
            kind, vector, many, sieve = question
            state = some_state(draw, draw.randint(0, 12), len(vector))
            index = some_index(draw, state, kind, draw.choice(FORMS))
            pairs = some_guess(draw, state, question)
            paper = self.unchanged(bounded, index, state, question, pairs)
            answer = tuple(pairs_by_words(state, kind, vector, sieve)[:many])
            self.same(paper.answer, answer)
            reach = answer[-1][0] if len(answer) == many else None
            self.same(looked(index, state, kind, vector, sieve, reach, paper.steps)[:many], answer)
            known, waiting, steps = list(pairs), [index.lot], []
            while waiting:
                lot = waiting.pop(0)
                now = known[-1][0] if len(known) == many else None
                steps.append(closing_word(kind, vector, sieve, now, lot))
                if steps[-1] == "open":
                    waiting = list(lot[2][1]) + waiting if lot[2][0] == "lots" else waiting
                    seen = pairs_by_words({key: state[key] for key in own_keys(lot)}, kind, vector, sieve)
                    known = sorted(set(known + seen))[:many]
            self.same(paper.steps, tuple(steps))
            least = paper_of(index, question, answer).steps
            self.same(bounded(index, state, question, answer).steps, least)
            unlike += paper.steps != least
        self.assertGreater(unlike, 10)


class FactorTest(Case):

    def test_factors(self):
        for factor in ((1, 1), (2, 1), (3, 2), (5, 5), (10 ** 20, 1)):
            self.assertIs(is_factor(factor), True)
        for value in WRONG_FACTORS:
            self.assertIs(is_factor(value=value), False)

    def test_no_factor(self):
        paper = Paper(((1, 1), (2, 2)), ("open", "open", "far"))
        for value in WRONG_FACTORS:
            self.refuses(InvalidNumber("factor"), is_loose, STATE, TWO, value, ((1, 1), (2, 2)))
            self.refuses(InvalidNumber("factor"), is_loose, STATE, TWO, value, None)
            self.refuses(InvalidNumber("factor"), is_loose_paper, INDEX, STATE, TWO, value, paper)
            self.refuses(InvalidNumber("factor"), is_loose_paper, INDEX, STATE, TWO, value, None)
            self.refuses(InvalidNumber("factor"), loose_paper, INDEX, STATE, TWO, value)

    def test_loose_guesses(self):
        one = ("sum", (1, 0), 1, ALL)
        for value, factor, wanted in ((((1, 1),), (1, 1), True), (((2, 2),), (1, 1), False), (((2, 2),), (2, 1), True),
                                      (((2, 2),), (19, 10), False), (((16, 4),), (16, 1), True), ((), (99, 1), False),
                                      (((16, 4),), (15, 1), False), (((1, 1), (2, 2)), (99, 1), False)):
            self.assertIs(is_loose(state=STATE, question=one, factor=factor, value=value), wanted)
        self.assertIs(is_loose(STATE, ("sum", (1, 0), 2, ALL), (99, 1), ((1, 1),)), False)
        self.assertIs(is_loose(STATE, ("sum", (1, 0), 2, ("has", "new")), (1, 1), ((17, 3),)), True)
        self.assertIs(is_loose(STATE, ("sum", (1, 0), 2, ("has", "new")), (1, 1), ()), False)
        self.assertIs(is_loose({}, TWO, (1, 1), ()), True)
        for odd in odd_values():
            self.assertIs(is_loose(STATE, TWO, (1, 1), odd), False)
            self.assertIs(is_loose(STATE, TWO, (1, 1), ((1, 1), odd)), False)

    def test_loose_guesses_by_the_words(self):
        draw = random.Random(60)
        found = {True: 0, False: 0}
        for _ in range(500):
            question = some_question(draw, draw.randint(1, 2), 4)
            kind, vector, many, sieve = question
            state, factor = some_state(draw, draw.randint(0, 8), len(vector), 9), some_factor(draw)
            value = some_guess(draw, state, question)
            wanted = is_loose_by_words(state, question, factor, value)
            self.assertIs(self.unchanged(is_loose, state, question, factor, value), wanted)
            found[wanted] += 1
            answer = pairs_by_words(state, kind, vector, sieve)[:many]
            if wanted:
                self.assertEqual(len(value), len(answer))
                for (away, _), (least, _) in zip(value, answer):
                    self.assertLessEqual(away * factor[1], least * factor[0])
            # With a factor of 1, also written with greater integers, the distances are those of the answer.
            plain = is_loose(state, question, (factor[1], factor[1]), value)
            self.assertIs(plain, [away for away, _ in value] == [away for away, _ in answer])
        self.assertGreater(min(found.values()), 50)


class LoosePaperTest(Case):

    def test_simple_ones(self):
        right = Paper(((1, 1), (2, 2)), ("open", "open", "far"))
        self.assertIs(is_loose_paper(index=INDEX, state=STATE, question=TWO, factor=(1, 1), value=right), True)
        loose = Paper(((16, 4), (17, 3)), ("open", "far", "open"))
        # The floor of the near lot is 0, so no factor makes it far.
        self.assertIs(is_loose_paper(INDEX, STATE, TWO, (10 ** 9, 1), loose), False)
        away = ("sum", (-1, 0), 1, ALL)
        loose = Paper(((18, 4),), ("open", "far", "open"))
        self.assertIs(is_loose_paper(INDEX, STATE, away, (18, 1), loose), True)
        self.assertIs(is_loose_paper(INDEX, STATE, away, (17, 1), loose), False)
        self.assertIs(is_loose_paper(INDEX, STATE, away, (35, 2), loose), False)
        self.assertIs(is_loose_paper(INDEX, STATE, away, (36, 2), loose), True)

    def test_at_the_reach_itself(self):
        state = {1: (1, (0,), ()), 2: (2, (4,), ())}
        index, question = built(state, "sum", "boxes", room=1), ("sum", (2,), 1, ALL)
        for factor in ((1, 1), (3, 3), (2, 1)):
            self.assertIs(is_loose_paper(index, state, question, factor, Paper(((2, 1),), ("open", "open", "far"))), True)
            self.assertIs(is_loose_paper(index, state, question, factor, Paper(((2, 2),), ("open", "far", "open"))), True)

    def test_wrong_values(self):
        right = Paper(((1, 1), (2, 2)), ("open", "open", "far"))
        self.assertIs(is_loose_paper(INDEX, STATE, TWO, (1, 1), right.answer), False)
        for odd in odd_values() + [(right.answer, right.steps)]:
            self.assertIs(is_loose_paper(INDEX, STATE, TWO, (1, 1), odd), False)
            self.assertIs(is_loose_paper(INDEX, STATE, TWO, (1, 1), Paper(odd, right.steps)), False)
            self.assertIs(is_loose_paper(INDEX, STATE, TWO, (1, 1), Paper(right.answer, odd)), False)
            self.assertIs(is_loose_paper(INDEX, STATE, TWO, (1, 1), Paper((odd, (2, 2)), right.steps)), False)
            self.assertIs(is_loose_paper(INDEX, STATE, TWO, (1, 1), Paper(right.answer, ("open", "open", odd))), False)
        for answer in (((1, 1),), ((2, 2), (1, 1)), ((1, 1), (1, 1)), ((1, 1), (16, 4)), ((1, 1), (2, 2), (16, 4)),
                       ((1, 1), (2, 9)), ((1, True), (2, 2)), [(1, 1), (2, 2)], ((1, 1), (2,)), ()):
            self.assertIs(is_loose_paper(INDEX, STATE, TWO, (1, 1), Paper(answer, right.steps)), False)
        for steps in ((), ("open",), ("open", "open"), right.steps + ("far",), ("open", "far", "open"), list(right.steps),
                      ("open", "open", "barred"), ("open", "open", "empty"), ("far",)):
            self.assertIs(is_loose_paper(INDEX, STATE, TWO, (1, 1), Paper(right.answer, steps)), False)
        other = Index("most", "boxes", INDEX.lot, 2)
        self.assertIs(is_loose_paper(other, STATE, TWO, (1, 1), right), False)

    def test_right_papers_are_loose(self):
        draw = random.Random(61)
        for _ in range(100):
            question = some_question(draw, draw.randint(1, 2), 4)
            kind, vector, many, sieve = question
            state = some_state(draw, draw.randint(0, 8), len(vector))
            index = some_index(draw, state, kind, draw.choice(FORMS))
            paper = paper_of(index, question, tuple(pairs_by_words(state, kind, vector, sieve)[:many]))
            self.assertIs(is_loose_paper(index, state, question, some_factor(draw), paper), True)

    def test_loose_papers(self):
        draw = random.Random(62)
        fewer = 0
        for _ in range(400):
            question = some_question(draw, draw.randint(1, 2), 4)
            kind, vector, many, sieve = question
            state = some_state(draw, draw.randint(0, 12), len(vector), 12)
            index, factor = some_index(draw, state, kind, draw.choice(FORMS)), some_factor(draw)
            paper = self.unchanged(loose_paper, index, state, question, factor)
            self.assertIs(paper.__class__, Paper)
            self.assertTrue(is_loose_paper_by_words(index, state, question, factor, paper))
            self.assertIs(self.unchanged(is_loose_paper, index, state, question, factor, paper), True)
            self.assertTrue(is_loose_by_words(state, question, factor, paper.answer))
            if factor[0] == factor[1]:
                answer = pairs_by_words(state, kind, vector, sieve)[:many]
                self.assertEqual([away for away, _ in paper.answer], [away for away, _ in answer])
            fewer += len(opened_lots(index, paper.steps)) < len(opened_lots(index, bounded(
                index, state, question, ()).steps))
        self.assertGreater(fewer, 20)
        paper = loose_paper(index=INDEX, state=STATE, question=TWO, factor=(1, 1))
        self.same((paper.answer, paper.steps), (((1, 1), (2, 2)), ("open", "open", "far")))

    def test_random_values(self):
        draw = random.Random(63)
        found = {True: 0, False: 0}
        for _ in range(2000):
            kind, places = draw.choice(KINDS), 1
            state = some_state(draw, draw.randint(1, 4), places, 9)
            index = some_index(draw, state, kind, draw.choice(FORMS))
            question = kind, some_vector(draw, places), draw.randint(1, 2), draw.choice((ALL, some_filter(draw, 2)))
            factor, other = some_factor(draw), some_factor(draw)
            paper = draw.choice((loose_paper(index, state, question, other),
                                 bounded(index, state, question, some_guess(draw, state, question))))
            at = draw.randrange(len(paper.steps))
            steps = paper.steps[:at] + (draw.choice(WORDS),) + paper.steps[at + 1:]
            paper = Paper(draw.choice((paper.answer, some_guess(draw, state, question))),
                          draw.choice((paper.steps, steps)))
            wanted = is_loose_paper_by_words(index, state, question, factor, paper)
            self.assertIs(is_loose_paper(index, state, question, factor, paper), wanted)
            found[wanted] += 1
            if wanted:
                self.assertTrue(is_loose_by_words(state, question, factor, paper.answer))
        self.assertGreater(min(found.values()), 200)


if __name__ == "__main__":
    unittest.main()
