"""[19], [20], [21], [22], as far as they tell what is shown."""

import itertools
import random
import unittest

from helper import ALL, KINDS, Case, some_filter, some_state, some_vector
from nonearer.lexer import marks_of
from nonearer.papers import Paper
from nonearer.printer import (show_answer, show_deed, show_deeds, show_filter, show_item, show_paper, show_question,
                              show_state)
from nonearer.reader import read_answer, read_deeds, read_filter, read_paper, read_question, read_state

A, B, C = ("has", "a"), ("has", "b"), ("has", "c")


class ShowTest(Case):

    def test_items_states_and_deeds(self):
        item = (7, (3, -4), (("red", 2), ("size", -1)))
        self.same(show_item(item=item), "7: 3 -4, red 2, size -1")
        self.same(show_item((0, (0,), ())), "0: 0")
        self.same(show_item((10 ** 20, (-10 ** 20,), (("if", 0),))), "1" + "0" * 20 + ": -1" + "0" * 20 + ", if 0")
        self.same(show_deed(deed=("put", item)), "put 7: 3 -4, red 2, size -1")
        self.same(show_deed(("take", 12)), "take 12")
        self.same(show_state({9: (9, (1,), ()), 10: (10, (2,), ()), 2: (2, (-3,), ())}), "2: -3\n9: 1\n10: 2")
        self.same(show_deeds((("put", item), ("take", 12), ("take", 12))), show_deed(("put", item)) + "\ntake 12\ntake 12")
        self.same((show_state(state={}), show_deeds(deeds=())), ("", ""))

    def test_filters(self):
        for sieve, text in ((ALL, "*"), (A, "a"), (("in", "size", 3, 5), "3 <= size <= 5"),
                            (("in", "if", -3, -2), "-3 <= if <= -2"), (("in", "none", 0, 0), "0 <= none <= 0"),
                            (("not", A), "!a"), (("not", ("not", ALL)), "!!*"), (("not", ("in", "a", -1, 4)), "!-1 <= a <= 4"),
                            (("and", A, B), "a & b"), (("or", A, B, A), "a | b | a"),
                            (("and", A, ("and", B, C)), "a & (b & c)"), (("and", ("and", A, B), C), "(a & b) & c"),
                            (("or", A, ("or", B, C)), "a | (b | c)"), (("or", A, ("and", B, C)), "a | b & c"),
                            (("or", ("and", A, B), C), "a & b | c"), (("and", A, ("or", B, C)), "a & (b | c)"),
                            (("not", ("and", A, B)), "!(a & b)"), (("not", ("or", A, ("not", B))), "!(a | !b)"),
                            (("and", ("not", A), ("in", "b", -1, 1), ALL), "!a & -1 <= b <= 1 & *"),
                            (("or", ("and", A, ("or", B, ALL)), ("not", ("not", C))), "a & (b | *) | !!c"),
                            (("not", ("not", ("or", ("and", A, ("and", B, C)), ("or", A, B)))),
                             "!!(a & (b & c) | (a | b))")):
            self.same(show_filter(sieve=sieve), text)

    def test_questions(self):
        self.same(show_question(question=("sum", (0, -5), 3, ("in", "size", -2, 4))),
                  "3 nearest to 0 -5 by sum if -2 <= size <= 4")
        for kind in KINDS:
            self.same(show_question((kind, (-1,), 400, ALL)), "400 nearest to -1 by " + kind)
        self.same(show_question(("most", (7,), 1, ("not", ALL))), "1 nearest to 7 by most if !*")
        self.same(show_question(("most", (7,), 1, ("or", ALL, ("has", "if")))), "1 nearest to 7 by most if * | if")

    def test_answers_and_papers(self):
        self.same(show_answer(answer=()), "none")
        self.same(show_answer(((25, 7), (30, 2))), "7 at 25, 2 at 30")
        self.same(show_paper(paper=Paper(((25, 7), (30, 2)), ("open", "open", "open", "far", "far"))),
                  "7 at 25, 2 at 30; open 3 far 2")
        self.same(show_paper(Paper((), ())), "none;")
        self.same(show_paper(Paper((), ("empty",))), "none; empty")
        self.same(show_paper(Paper(((0, 0),), ("open", "barred", "far", "open", "far", "far"))),
                  "0 at 0; open barred far open far 2")

    def test_runs_of_equal_steps(self):
        for many, text in ((1, "far"), (2, "far 2"), (999, "far 999"), (1000, "far 1000"), (1001, "far 1000 far"),
                           (1002, "far 1000 far 2"), (2000, "far 1000 far 1000"), (2001, "far 1000 far 1000 far"),
                           (3456, "far 1000 far 1000 far 1000 far 456")):
            self.same(show_paper(Paper((), ("far",) * many)), "none; " + text)
            self.same(show_paper(Paper((), ("open",) + ("far",) * many + ("open",))), "none; open " + text + " open")

    def test_spaces_and_lines(self):
        draw = random.Random(22)
        for _ in range(200):
            text = draw.choice((
                lambda: show_filter(some_filter(draw, 4)),
                lambda: show_state(some_state(draw, draw.randint(0, 4), 2)),
                lambda: show_question((draw.choice(KINDS), some_vector(draw, 2), 3, some_filter(draw, 3))),
                lambda: show_paper(Paper(((1, 2),), ("open", "far") * draw.randint(0, 3)))))()
            for line in text.split("\n") if text else []:
                marks = marks_of(line)
                self.assertEqual(marks[0][1], 0)
                for (_, at, mark), (_, behind, other) in zip(marks, marks[1:]):
                    is_close = other in (":", ",", ";", ")") or mark in ("-", "!", "(")
                    self.assertEqual(behind - at - len(mark), 0 if is_close else 1, text)
                self.assertEqual(len(line), marks[-1][1] + len(marks[-1][2]))


class AgainTest(Case):
    """Read again, each text is the thing itself."""

    def test_states_and_deeds(self):
        draw = random.Random(23)
        for _ in range(100):
            places = draw.randint(1, 3)
            state = some_state(draw, draw.randint(0, 6), places)
            self.assertEqual(read_state(places, self.unchanged(show_state, state)), state)
            deeds = tuple(draw.choice((("put", item), ("take", item[0]))) for item in state.values())
            self.same(read_deeds(places, self.unchanged(show_deeds, deeds)), deeds)
            for item in state.values():
                self.assertEqual(read_state(places, show_item(item)), {item[0]: item})

    def test_filters_and_questions(self):
        draw = random.Random(24)
        for _ in range(400):
            sieve = some_filter(draw, 5)
            self.same(read_filter(self.unchanged(show_filter, sieve)), sieve)
            question = (draw.choice(KINDS), some_vector(draw, 2), draw.randint(1, 400), sieve)
            self.same(read_question(2, self.unchanged(show_question, question)), question)

    def test_a_deep_filter_and_one_of_many_parts(self):
        deep = A
        for at in range(19):
            deep = (("not", deep), ("and", deep, B), ("or", C, deep))[at % 3]
        self.same(read_filter(show_filter(deep)), deep)
        many = ("or",) + tuple(("and", ("has", "a"), ("in", "b", -at, at)) for at in range(33))
        self.same(read_filter(show_filter(many)), many)

    def test_answers_and_papers(self):
        draw = random.Random(25)
        for _ in range(200):
            keys = draw.sample(range(20), draw.randint(0, 4))
            answer = tuple(sorted((draw.randint(0, 3), key) for key in keys))
            self.same(read_answer(self.unchanged(show_answer, answer)), answer)
            steps = ()
            for _ in range(draw.randint(0, 4)):
                steps += (draw.choice(("empty", "barred", "far", "open")),) * draw.choice((1, 1, 2, 1000, 1001, 2345))
            paper = read_paper(show_paper(Paper(answer, steps)))
            self.assertIs(paper.__class__, Paper)
            self.same((paper.answer, paper.steps), (answer, steps))


class FewestMarksTest(Case):
    """No other text of a thing has fewer marks: all short texts are tried."""

    def check_all(self, words, most, read, show):
        """Reads all texts of at most so many of some marks, and asserts that what is shown has at most as many."""
        found = 0
        for many in range(most + 1):
            for marks in itertools.product(words, repeat=many):
                try:
                    thing = read(" ".join(marks))
                except ValueError:
                    continue
                found += 1
                self.assertLessEqual(len(marks_of(show(thing))), many)
        self.assertGreater(found, 10)

    def test_filters(self):
        self.check_all(("a", "*", "!", "&", "|", "(", ")"), 6, read_filter, show_filter)
        self.check_all(("0", "1", "-", "a", "<=", "!", "(", ")"), 6, read_filter, show_filter)

    def test_papers(self):
        def read(text):
            return read_paper("none ; " + text)

        self.check_all(("far", "open", "1", "2", "999", "1000"), 5, read,
                       lambda paper: show_paper(paper)[len("none;"):])


if __name__ == "__main__":
    unittest.main()
