"""[93]: boards of standing questions."""

import random
import unittest

from helper import (ALL, Awkward, Case, answer_by_words, differences_by_words, distance_by_words, odd_values, some_deed,
                    some_filter, some_question, some_state, some_vector)
from nonearer.boards import Board
from nonearer.distances import reaches
from nonearer.errors import InvalidNumber
from nonearer.plain import done, state_of
from nonearer.standing import Standing

LINE = state_of(((1, (0,), ()), (2, (4,), ()), (3, (9,), ())))


class BoardTest(Case):

    def test_simple_ones(self):
        board = Board(spare=1)
        self.same((board.spare, Board().spare), (1, 0))
        self.same((board.numbers(), board.answers(), board.refill_count()), ((), {}, 0))
        self.same((board.touched(("take", 1)), board.candidates(("take", 1)), board.told(("take", 1), None)), ((),) * 3)
        self.same(board.ask(LINE, ("sum", (1,), 1, ALL)), 0)
        self.same(board.ask(state=LINE, question=("sum", (8,), 2, ALL)), 1)
        self.same(board.ask({}, ("most", (8,), 1, ALL)), 2)
        self.same(board.numbers(), (0, 1, 2))
        self.assertEqual(board.answers(), {0: ((1, 1),), 1: ((1, 3), (4, 2)), 2: ()})
        self.same(board.answer_to(number=1), ((1, 3), (4, 2)))
        board.leave(number=1)
        self.same(board.numbers(), (0, 2))
        self.assertEqual(board.answers(), {0: ((1, 1),), 2: ()})
        self.same(board.ask(LINE, ("sum", (1,), 1, ALL)), 3)
        board.leave(3)
        self.same(board.ask(LINE, ("sum", (1,), 1, ALL)), 4)
        self.same(board.numbers(), (0, 2, 4))
        self.assertRaises(TypeError, Board, 1)

    def test_wrong_numbers(self):
        board = Board()
        for number in range(3):
            board.ask(LINE, ("sum", (number,), 1, ALL))
        board.leave(1)
        for number in odd_values() + [1, 3, -1, "0", (0,), 10 ** 20]:
            for call in (board.leave, board.answer_to):
                self.refuses(InvalidNumber("number"), call, number)
        self.same(board.numbers(), (0, 2))

    def test_what_is_told_may_be_changed(self):
        board = Board()
        board.ask(LINE, ("sum", (1,), 1, ALL))
        answers = board.answers()
        answers.clear()
        self.assertEqual(board.answers(), {0: ((1, 1),)})
        state = dict(LINE)
        board.ask(state, ("sum", (1,), 1, ALL))
        state.clear()
        self.same(board.answer_to(1), ((1, 1),))
        self.assertFalse(any(value == LINE for value in vars(board).values()))

    def test_telling(self):
        board = Board(spare=1)
        board.ask(LINE, ("sum", (1,), 1, ALL))
        board.ask(LINE, ("sum", (9,), 1, ALL))
        board.ask(LINE, ("sum", (1,), 1, ("has", "a")))
        # What is told to a question is not to change its answer.
        self.same(board.touched(deed=("put", (8, (3,), ()))), (0,))
        self.same(board.told(deed=("put", (8, (3,), ())), state=Awkward()), ())
        self.same(board.told(("put", (2, (8,), (("a", 1),))), None), ((2, (), ((7, 2),)),))
        self.same(board.touched(("take", 2)), (1, 2))
        state = state_of(((1, (0,), ()), (8, (3,), ())))
        self.same(board.told(("take", 2), state), ((2, ((7, 2),), ()),))
        self.same(board.told(("take", 3), state), ((1, ((0, 3),), ((6, 8),)),))
        self.same(board.refill_count(), 1)
        board.leave(0)
        self.same(board.refill_count(), 1)
        board.leave(1)
        self.same(board.refill_count(), 0)

    def test_candidates_by_the_mark(self):
        board = Board()
        board.ask(LINE, ("sum", (0,), 1, ALL))
        board.ask(LINE, ("sum", (-5,), 1, ALL))
        # From the mark at 0, 5 looks like -5; and the filter does not count here.
        self.same(board.candidates(("put", (9, (5,), ()))), (1,))
        self.same(board.candidates(deed=("put", (9, (10,), ()))), (1,))
        self.same(board.candidates(("put", (9, (11,), ()))), ())
        self.same(board.touched(("put", (9, (5,), ()))), ())
        self.same(board.candidates(("take", 9)), ())
        self.same(board.candidates(("take", 1)), (0, 1))
        board.ask(LINE, ("sum", (0,), 1, ("has", "a")))
        self.same(board.candidates(("put", (9, (9999,), ()))), (2,))
        # The mark stays when its question is taken away.
        board.leave(0)
        board.leave(2)
        board.ask(LINE, ("sum", (7,), 1, ALL))
        self.same(board.candidates(("put", (9, (-9,), ()))), (1, 3))
        self.same(board.candidates(("put", (9, (-10,), ()))), (1,))
        self.same(board.candidates(("put", (9, (-11,), ()))), ())

    def test_each_kind_has_a_mark(self):
        board = Board()
        board.ask(LINE, ("most", (50,), 1, ALL))
        board.ask(LINE, ("sum", (0,), 1, ALL))
        self.same(board.candidates(("put", (9, (9,), ()))), (0,))
        self.same(board.candidates(("put", (9, (0,), ()))), (1,))

    def check_candidates(self, board, questions, kept, marks, deed):
        """Asserts that the candidates of a deed are those that [93] tells; `kept` are `Standing`s by number."""
        wanted = []
        for number, question in questions.items():
            one = kept[number]
            key = deed[1] if deed[0] == "take" else deed[1][0]
            may_make = deed[0] == "put" and (one.limit() is None or reaches(
                question[0], distance_by_words(question[0], deed[1][1], marks[question[0]]),
                distance_by_words(question[0], question[1], marks[question[0]]), one.limit()[0]))
            if may_make or key in [pair[1] for pair in one.kept()]:
                wanted.append(number)
        self.same(self.unchanged(board.candidates, deed), tuple(wanted))
        self.assertLessEqual(set(board.touched(deed)), set(wanted))

    def test_by_the_words(self):
        draw = random.Random(93)
        for _ in range(60):
            places, spare = draw.randint(1, 2), draw.choice((0, 1, 3))
            board, questions, kept, marks, asked = Board(spare=spare), {}, {}, {}, 0
            state = some_state(draw, draw.randint(0, 8), places, 3)
            for _ in range(40):
                act = draw.randint(0, 9)
                if act < 3:
                    question = some_question(draw, places, 3)
                    self.same(board.ask(state, question), asked)
                    questions[asked], kept[asked] = question, Standing(state, question, spare=spare)
                    marks.setdefault(question[0], question[1])
                    asked += 1
                elif act == 3 and questions:
                    number = draw.choice(list(questions))
                    board.leave(number)
                    del questions[number], kept[number]
                    self.refuses(InvalidNumber("number"), board.leave, number)
                else:
                    deed = some_deed(draw, 12, places)
                    self.check_candidates(board, questions, kept, marks, deed)
                    touched = tuple(number for number in questions if kept[number].matters(deed))
                    self.same(self.unchanged(board.touched, deed), touched)
                    state = done(state, deed)
                    changes = []
                    for number in questions:
                        before = kept[number].answer()
                        kept[number].told(deed, state)
                        if kept[number].answer() != before:
                            changes.append((number,) + differences_by_words(before, kept[number].answer()))
                    self.same(self.unchanged(board.told, deed, state), tuple(changes))
                self.same(board.numbers(), tuple(questions))
                answers = {number: answer_by_words(state, question) for number, question in questions.items()}
                self.assertEqual(board.answers(), answers)
                self.assertEqual({number: board.answer_to(number) for number in questions}, answers)
                self.same(board.refill_count(), sum(one.refills() for one in kept.values()))

    def test_the_same_question_left_and_asked_again(self):
        draw = random.Random(94)
        board, state = Board(spare=2), some_state(draw, 9, 2)
        question = ("square", some_vector(draw, 2), 2, some_filter(draw, 1))
        for number in range(5):
            self.same(board.ask(state, question), number)
            self.same(board.answer_to(number), answer_by_words(state, question))
            board.leave(number)
            self.same(board.numbers(), ())


if __name__ == "__main__":
    unittest.main()
