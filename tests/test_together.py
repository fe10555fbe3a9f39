"""[79]: answers of several shards together."""

import random
import unittest

from helper import (ALL, FORMS, KINDS, Case, all_right_by_words, answer_by_words, keys_looked_at, met_by_words, odd_values,
                    pairs_by_words, shuffled, some_filter, some_index, some_state, some_vector, step_fault_by_words)
from nonearer.building import built
from nonearer.papers import Paper
from nonearer.plain import union_of
from nonearer.together import Together, is_together, shards_asked, together

ONE = {1: (1, (0, 0), ()), 2: (2, (3, 0), ())}
TWO = {3: (3, (9, 9), ()), 4: (4, (1, 1), ())}
SHARDS = ((built(ONE, "sum", "boxes", room=2), ONE), (built(TWO, "sum", "boxes", room=1), TWO),
          (built({}, "sum", "boxes", room=1), {}))
QUESTION = ("sum", (1, 0), 2, ALL)
ANSWER = ((1, 1), (1, 4))
STEPS = (("open",), ("open", "open", "far"), ("empty",))


class Likeness:
    """What is no object of the class, but has its attributes."""

    def __init__(self, answer, steps):
        self.answer = answer
        self.steps = steps


def some_shards(draw, kind, places):
    """Returns random shards without a common key."""
    whole = some_state(draw, draw.randint(0, 9), places, 2)
    parts = [{} for _ in range(draw.randint(0 if not whole else 1, 4))]
    for key, item in whole.items():
        draw.choice(parts)[key] = item
    return tuple((some_index(draw, part, kind, draw.choice(FORMS)), shuffled(draw, part)) for part in parts), whole


def is_right_by_words(shards, question, value):
    """Returns whether a `Together` with a tuple of pairs and tuples of steps is right, as [79] says."""
    kind, vector, many, sieve = question
    reach = value.answer[-1][0] if len(value.answer) == many else None
    pairs = []
    if len(value.steps) != len(shards):
        return False
    for (index, state), steps in zip(shards, value.steps):
        if step_fault_by_words(all_right_by_words(index, kind, vector, sieve, reach), steps) is not None:
            return False
        pairs += pairs_by_words({key: state[key] for key in keys_looked_at(index, steps)}, kind, vector, sieve)
    return value.answer == tuple(sorted(pairs)[:many])


class TogetherTest(Case):

    def test_simple_ones(self):
        value = together(shards=SHARDS, question=QUESTION)
        self.assertIs(value.__class__, Together)
        self.same((value.answer, value.steps), (ANSWER, STEPS))
        self.assertIs(is_together(shards=SHARDS, question=QUESTION, value=value), True)
        self.same(shards_asked(value=value), (0, 1))
        value = together(SHARDS, ("sum", (-1, 0), 1, ALL))
        self.same((value.answer, value.steps), (((1, 1),), (("open",), ("far",), ("empty",))))
        self.same(shards_asked(value), (0,))

    def test_the_arguments_are_kept(self):
        for odd in odd_values():
            value = Together(odd, odd)
            self.assertIs(value.answer, odd)
            self.assertIs(value.steps, odd)
        value = Together(steps=STEPS, answer=ANSWER)
        self.same((value.answer, value.steps), (ANSWER, STEPS))

    def test_no_shard_and_shards_without_items(self):
        value = together((), QUESTION)
        self.same((value.answer, value.steps, shards_asked(value)), ((), (), ()))
        self.assertTrue(is_together((), QUESTION, value))
        self.assertFalse(is_together((), QUESTION, Together(((0, 1),), ())))
        self.assertFalse(is_together((), QUESTION, Together((), (("empty",),))))
        value = together((SHARDS[2], SHARDS[2]), QUESTION)
        self.same((value.answer, value.steps, shards_asked(value)), ((), (("empty",), ("empty",)), ()))
        for steps, is_right in (((("open",), ("barred",)), True), ((("open",), ("far",)), False), (((), ("open",)), False)):
            self.assertIs(is_together((SHARDS[2], SHARDS[2]), QUESTION, Together((), steps)), is_right)

    def test_more_asked_for_than_there_is(self):
        value = together(SHARDS, ("sum", (1, 0), 9, ALL))
        self.same((value.answer, value.steps), (((1, 1), (1, 4), (2, 2), (17, 3)), (("open",), ("open",) * 3, ("empty",))))
        self.assertTrue(is_together(SHARDS, ("sum", (1, 0), 9, ALL), value))

    def test_equal_distances_in_several_shards(self):
        states = [{key: (key, (0,), ())} for key in (5, 3, 4)]
        shards = tuple((built(state, "most", "balls", room=1), state) for state in states)
        for many, wanted in ((1, ((0, 3),)), (2, ((0, 3), (0, 4))), (3, ((0, 3), (0, 4), (0, 5)))):
            value = together(shards, ("most", (0,), many, ALL))
            self.same((value.answer, shards_asked(value)), (wanted, (0, 1, 2)))
        self.assertFalse(is_together(shards, ("most", (0,), 1, ALL), Together(((0, 4),), (("open",),) * 3)))

    def test_any_value(self):
        for value in odd_values() + [(ANSWER, STEPS), Likeness(ANSWER, STEPS), Paper(ANSWER, STEPS), "no", 0]:
            self.assertIs(is_together(SHARDS, QUESTION, value), False)
        pairs = [(1,), (1, 1, 1), [1, 1], (1, -1), (True, 1), (1, True), (1.0, 1), ("1", 1), 1, None]
        answers = odd_values() + [list(ANSWER), ((1, 4), (1, 1)), ((1, 1), (1, 1)), ((1, 1), (2, 2)), ((1, 1),), (), 0,
                                  "no", ANSWER + ((2, 2),)] + [(pair, (1, 4)) for pair in pairs]
        for answer in answers + [((1, 1), pair) for pair in pairs]:
            self.assertIs(is_together(SHARDS, QUESTION, Together(answer, STEPS)), False)
            self.assertIs(is_together(SHARDS, QUESTION, Together(answer, None)), False)
        wrong = odd_values() + [list(STEPS), STEPS[:2], STEPS + (("empty",),), (), "no", 0, STEPS[::-1]]
        wrong += [STEPS[:at] + (odd,) + STEPS[at + 1:] for at in range(3)
                  for odd in odd_values() + ["open", ("open", None), ("far",), ("open",) * 4, ["open"], (), 0]]
        for steps in wrong:
            self.assertIs(is_together(SHARDS, QUESTION, Together(ANSWER, steps)), False)
        self.assertIs(is_together(SHARDS, QUESTION, Together(ANSWER, (("open",), ("open",) * 3, ("open",)))), True)

    def test_by_the_words(self):
        draw = random.Random(79)
        right, closed = 0, 0
        for _ in range(300):
            kind, places = draw.choice(KINDS), draw.randint(1, 2)
            shards, whole = some_shards(draw, kind, places)
            question = kind, some_vector(draw, places), draw.randint(1, 5), draw.choice((ALL, some_filter(draw, 2)))
            answer = answer_by_words(whole, question)
            value = self.unchanged(together, shards, question)
            self.same(value.answer, answer)
            self.assertTrue(self.unchanged(is_together, shards, question, value))
            self.assertTrue(is_right_by_words(shards, question, value))
            reach = answer[-1][0] if len(answer) == question[2] else None
            lists = [all_right_by_words(index, kind, question[1], question[3], reach) for index, _ in shards]
            for (index, _), steps, every in zip(shards, value.steps, lists):
                # Each lot that these steps open is opened by all right ones.
                opened = [lot for lot, word in zip(met_by_words(index.lot, steps)[0], steps) if word == "open"]
                for other in every[:50]:
                    also = [lot for lot, word in zip(met_by_words(index.lot, other)[0], other) if word == "open"]
                    self.assertTrue(all(lot in also for lot in opened))
            other = Together(answer, tuple(draw.choice(every) for every in lists))
            self.assertTrue(is_together(shards, question, other))
            self.assertLessEqual(set(shards_asked(value)), set(shards_asked(other)))
            self.same(shards_asked(other), tuple(at for at, steps in enumerate(other.steps) if steps[0] == "open"))
            closed += len(shards_asked(value)) < len(shards)
            if shards:
                wrong = self.changed(draw, other)
                is_right = is_right_by_words(shards, question, wrong)
                self.assertIs(is_together(shards, question, wrong), is_right)
                self.assertFalse(is_right and wrong.answer != answer)
                right += is_right
        self.assertGreater(closed, 50)
        self.assertGreater(right, 10)

    def changed(self, draw, value):
        """Returns a `Together` with another answer or other steps, still of tuples, pairs and words."""
        if value.answer and draw.randint(0, 1):
            return Together(draw.choice((value.answer[:-1], value.answer[1:])), value.steps)
        at = draw.randrange(len(value.steps))
        steps = list(value.steps[at])
        steps[draw.randrange(len(steps))] = draw.choice(("open", "far", "barred", "empty"))
        return Together(value.answer, value.steps[:at] + (tuple(steps),) + value.steps[at + 1:])

    def test_it_is_the_answer_in_the_union(self):
        draw = random.Random(80)
        for _ in range(20):
            shards, whole = some_shards(draw, "square", 2)
            question = ("square", some_vector(draw, 2), 3, ALL)
            answer = together(shards, question).answer
            self.same(answer, answer_by_words(union_of(tuple(state for _, state in shards)), question))
            self.same(answer, answer_by_words(whole, question))


if __name__ == "__main__":
    unittest.main()
