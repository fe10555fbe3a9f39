"""[48], [49], [50], [51], [52], [53], as far as they are about nonearer/papers.py."""

import random
import unittest

from helper import (EMPTY_REGIONS, FORMS, WORDS, Case, is_right_by_words, keys_by_words, met_by_words, odd_values,
                    pairs_by_words, some_case, some_index, some_question, some_state, steps_by_words)
from nonearer.building import built
from nonearer.errors import InvalidPaper, Refused
from nonearer.lots import Index
from nonearer.papers import (Paper, all_right_steps, answer_reach, closing_word, fewer, least_steps, looked, opened_lots,
                             paper_of, right_count, step_of_key, within_paper, work_of)
from nonearer.search import found

ALL = ("all",)
NEAR = (("box", (0, 0), (3, 0)), (2, ()), ("items", (1, 2)))
FAR = (("box", (9, 9), (9, 9)), (1, (("new", 1, 4, 4),)), ("items", (3,)))
WHOLE = (("box", (0, 0), (9, 9)), (3, (("new", 1, 4, 4),)), ("lots", (NEAR, FAR)))
INDEX = Index("sum", "boxes", WHOLE, 2)
STATE = {1: (1, (0, 0), ()), 2: (2, (3, 0), ()), 3: (3, (9, 9), (("new", 4),))}


class WordsTest(Case):

    def test_simple_ones(self):
        for reach, word in ((None, "open"), (0, "far"), (15, "far"), (16, "far"), (17, "open"), (18, "open")):
            self.same(closing_word("sum", (1, 0), ALL, reach, FAR), word)
        self.same(closing_word("sum", (1, 0), ("has", "old"), 0, FAR), "barred")
        self.same(closing_word(kind="sum", vector=(1, 0), sieve=("has", "new"), reach=None, lot=NEAR), "barred")
        for form, region in EMPTY_REGIONS.items():
            for reach in (None, 0, 9):
                lot = (region, (0, ()), ("items", ()))
                self.same(closing_word("sum", (), ALL, reach, lot), "empty")
                self.same(closing_word("sum", (), ("not", ALL), reach, lot), "empty")

    def test_by_the_words(self):
        draw = random.Random(48)
        words = set()
        for _ in range(500):
            index, _, kind, vector, sieve, reach = some_case(draw)
            lot = index.lot if index.lot[2][0] == "items" else draw.choice(index.lot[2][1])
            wanted = [word for word in WORDS if is_right_by_words(word, kind, vector, sieve, reach, lot)][0]
            self.same(self.unchanged(closing_word, kind, vector, sieve, reach, lot), wanted)
            words.add(wanted)
        self.assertEqual(words, set(WORDS))


class LookedTest(Case):

    def test_simple_ones(self):
        self.same(looked(INDEX, STATE, "sum", (1, 0), ALL, 2, ("open", "open", "far")), ((1, 1), (2, 2)))
        self.same(looked(INDEX, STATE, "sum", (1, 0), ALL, 2, ("open", "open", "open")), ((1, 1), (2, 2), (17, 3)))
        self.same(looked(index=INDEX, state=STATE, kind="sum", vector=(1, 0), sieve=("has", "new"), reach=None,
                         steps=("open", "barred", "open")), ((17, 3),))
        self.same(looked(INDEX, STATE, "sum", (-9, 0), ALL, 2, ("far",)), ())

    def test_only_items_of_opened_lots_are_looked_at(self):
        state = {1: STATE[1], 2: STATE[2]}
        self.same(looked(INDEX, state, "sum", (1, 0), ALL, 2, ("open", "open", "far")), ((1, 1), (2, 2)))
        self.same(looked(INDEX, {}, "sum", (-9, 0), ALL, 2, ("far",)), ())
        self.refuses(InvalidPaper(2), looked, INDEX, {}, "sum", (1, 0), ALL, 17, ("open", "open", "far"))

    def test_no_tuple(self):
        for odd in odd_values() + ["open", ["open", "open", "far"], 3, -1]:
            self.refuses(InvalidPaper(-1), looked, INDEX, STATE, "sum", (1, 0), ALL, 2, odd)

    def test_the_first_wrong_step(self):
        good = ("open", "open", "far")
        for at in range(3):
            for odd in odd_values() + ["", "Open", "opened", "empty", "barred", ("open",), 0]:
                steps = good[:at] + (odd,) + good[at + 1:]
                self.refuses(InvalidPaper(at), looked, INDEX, STATE, "sum", (1, 0), ALL, 2, steps)
                self.refuses(InvalidPaper(at), looked, INDEX, STATE, "sum", (1, 0), ALL, 2, steps[:at + 1] + (odd,) * 9)
        for steps, at in (((), 0), (("open",), 1), (("open", "open"), 2), (good + ("open",), 3), (good + (None,), 3),
                          (("far", "open", "far"), 0), (("open", "far", "far"), 1), (("open", "open", "far", "far"), 3)):
            self.refuses(InvalidPaper(at), looked, INDEX, STATE, "sum", (1, 0), ALL, 2, steps)
        self.refuses(InvalidPaper(2), looked, INDEX, STATE, "sum", (1, 0), ALL, None, good)
        self.refuses(InvalidPaper(2), looked, INDEX, STATE, "sum", (1, 0), ALL, 17, good)
        self.refuses(InvalidPaper(0), looked, INDEX, STATE, "sum", (1, 0), ALL, 17, ("far",))
        self.refuses(InvalidPaper(1), looked, INDEX, STATE, "sum", (-9, 0), ALL, 2, ("far", "far"))

    def test_the_lot_without_items(self):
        for form in FORMS:
            index = built({}, "sum", form, room=1)
            for word in ("empty", "barred", "open"):
                self.same(looked(index, {}, "sum", (1, 0), ALL, 0, (word,)), ())
            self.refuses(InvalidPaper(0), looked, index, {}, "sum", (), ALL, 0, ("far",))

    def test_by_the_words(self):
        draw = random.Random(49)
        wrong = 0
        for _ in range(300):
            index, state, kind, vector, sieve, reach = some_case(draw)
            right = steps_by_words(index.lot, lambda word, lot: is_right_by_words(word, kind, vector, sieve, reach, lot))
            steps = draw.choice(right)
            keys = [key for lot, word in zip(met_by_words(index.lot, steps)[0], steps)
                    if word == "open" and lot[2][0] == "items" for key in lot[2][1]]
            pairs = pairs_by_words({key: state[key] for key in keys}, kind, vector, sieve)
            self.same(self.unchanged(looked, index, state, kind, vector, sieve, reach, steps), tuple(pairs))
            for pair in pairs_by_words(state, kind, vector, sieve):
                self.assertTrue(pair in pairs or pair[0] > reach)
            at = draw.randrange(len(steps))
            other = steps[:at] + (draw.choice(WORDS),) + steps[at + 1:]
            if other not in right:
                # It is refused where it first leaves all right ones.
                at = [end for end in range(len(other) + 1) if not any(one[:end] == other[:end] for one in right)]
                self.refuses(InvalidPaper(at[0] - 1 if at else len(other)), looked, index, state, kind, vector, sieve,
                             reach, other)
                wrong += 1
        self.assertGreater(wrong, 50)


class PaperTest(Case):

    def test_the_example(self):
        near = (("box", (0, 0), (3, 0)), (2, ()), ("items", (1, 2)))
        far = (("box", (9, 9), (9, 9)), (1, ()), ("items", (3,)))
        index = Index("sum", "boxes", (("box", (0, 0), (9, 9)), (3, ()), ("lots", (near, far))), 2)
        self.same(paper_of(index, ("sum", (1, 0), 2, ALL), ((1, 1), (2, 2))).steps, ("open", "open", "far"))

    def test_papers_take_any_values(self):
        for odd in odd_values():
            paper = Paper(odd, odd)
            self.assertIs(paper.answer, odd)
            self.assertIs(paper.steps, odd)
        paper = Paper(steps=("open",), answer=((1, 1),))
        self.same((paper.answer, paper.steps), (((1, 1),), ("open",)))

    def test_answer_reaches(self):
        question = ("sum", (0, 0), 2, ALL)
        self.assertIsNone(answer_reach(question, ()))
        self.assertIsNone(answer_reach(question, ((1, 1),)))
        self.same(answer_reach(question=question, answer=((1, 1), (4, 2))), 4)
        self.same(answer_reach(question, ((0, 1), (0, 2))), 0)

    def test_least_papers(self):
        draw = random.Random(50)
        closed = 0
        for _ in range(300):
            question = some_question(draw, draw.randint(1, 2), 4)
            kind, vector, many, sieve = question
            state = some_state(draw, draw.randint(0, 7), len(vector))
            index = some_index(draw, state, kind, draw.choice(FORMS))
            answer = tuple(pairs_by_words(state, kind, vector, sieve)[:many])
            reach = answer[-1][0] if len(answer) == many else None

            def is_right(word, lot):
                return is_right_by_words(word, kind, vector, sieve, reach, lot)

            paper = self.unchanged(paper_of, index, question, answer)
            self.assertIs(paper.__class__, Paper)
            self.same(paper.answer, answer)
            self.same(looked(index, state, kind, vector, sieve, reach, paper.steps)[:many], answer)
            self.same(paper.steps, self.unchanged(least_steps, index, kind, vector, sieve, reach))
            met = met_by_words(index.lot, paper.steps)[0]
            for lot, step in zip(met, paper.steps):
                self.same(step, [word for word in WORDS if is_right(word, lot)][0])
            self.assertEqual(met_by_words(index.lot, paper.steps)[1], ())
            opened = [lot for lot, word in zip(met, paper.steps) if word == "open"]
            self.assertEqual(len(opened), len(found(index, state, question)[1]))
            for other in steps_by_words(index.lot, is_right)[:200]:
                also = [lot for lot, word in zip(met_by_words(index.lot, other)[0], other) if word == "open"]
                self.assertTrue(all(lot in also for lot in opened))
                self.assertLessEqual(len(paper.steps), len(other))
            closed += "far" in paper.steps
        self.assertGreater(closed, 50)

    def test_opened_lots_and_work(self):
        self.same(opened_lots(INDEX, ("open", "open", "far")), (WHOLE, NEAR))
        self.same(opened_lots(index=INDEX, steps=("far",)), ())
        self.same(work_of(INDEX, ("open", "open", "far")), (3, 2, 2))
        self.same(work_of(INDEX, ("open", "barred", "open")), (3, 2, 1))
        self.same(work_of(index=INDEX, steps=("barred",)), (1, 0, 0))
        empty = built({}, "sum", "boxes", room=1)
        self.same(work_of(empty, ("open",)), (1, 1, 0))
        self.same(work_of(empty, ("empty",)), (1, 0, 0))
        draw = random.Random(51)
        for _ in range(150):
            index, _, kind, vector, sieve, reach = some_case(draw)
            steps = draw.choice(steps_by_words(index.lot, lambda word, lot: is_right_by_words(
                word, kind, vector, sieve, reach, lot)))
            opened = tuple(lot for lot, word in zip(met_by_words(index.lot, steps)[0], steps) if word == "open")
            self.same(self.unchanged(opened_lots, index, steps), opened)
            keys = [key for lot in opened if lot[2][0] == "items" for key in lot[2][1]]
            self.same(work_of(index, steps), (len(steps), len(opened), len(keys)))

    def test_fewer(self):
        paper = Paper(((1, 1), (2, 2), (17, 3)), ("open", "open", "open"))
        for many in (1, 2, 3):
            other = fewer(paper=paper, many=many)
            self.assertIs(other.__class__, Paper)
            self.same((other.answer, other.steps), (paper.answer[:many], paper.steps))
            reach = answer_reach(("sum", (1, 0), many, ALL), other.answer)
            self.same(looked(INDEX, STATE, "sum", (1, 0), ALL, reach, other.steps)[:many], other.answer)
        self.same((paper.answer, paper.steps), (((1, 1), (2, 2), (17, 3)), ("open", "open", "open")))

    def test_within_papers(self):
        for reach, answer, steps in ((0, (), ("open", "open", "far")), (1, ((1, 1),), ("open", "open", "far")),
                                     (16, ((1, 1), (2, 2)), ("open", "open", "far")),
                                     (17, ((1, 1), (2, 2), (17, 3)), ("open", "open", "open"))):
            paper = within_paper(index=INDEX, state=STATE, kind="sum", vector=(1, 0), reach=reach, sieve=ALL)
            self.assertIs(paper.__class__, Paper)
            self.same((paper.answer, paper.steps), (answer, steps))
        paper = within_paper(INDEX, STATE, "sum", (-9, 0), 8, ALL)
        self.same((paper.answer, paper.steps), ((), ("far",)))
        draw = random.Random(52)
        for _ in range(200):
            index, state, kind, vector, sieve, reach = some_case(draw)
            reach = reach or 0
            paper = self.unchanged(within_paper, index, state, kind, vector, reach, sieve)
            pairs = pairs_by_words(state, kind, vector, sieve)
            self.same(paper.answer, tuple(pair for pair in pairs if pair[0] <= reach))
            self.same(paper.steps, least_steps(index, kind, vector, sieve, reach))

    def test_the_state_may_lack_items_of_closed_lots(self):
        paper = within_paper(INDEX, {1: STATE[1], 2: STATE[2]}, "sum", (1, 0), 1, ALL)
        self.same((paper.answer, paper.steps), (((1, 1),), ("open", "open", "far")))


class AllTest(Case):

    def test_simple_ones(self):
        self.same(right_count(INDEX, "sum", (1, 0), ALL, 2), 2)
        self.same(all_right_steps(INDEX, "sum", (1, 0), ALL, 2), (("open", "open", "far"), ("open", "open", "open")))
        self.same(right_count(index=INDEX, kind="sum", vector=(1, 0), sieve=ALL, reach=None), 1)
        self.same(all_right_steps(index=INDEX, kind="sum", vector=(1, 0), sieve=("has", "new"), reach=1),
                  (("open", "barred", "far"), ("open", "barred", "open"), ("open", "open", "far"),
                   ("open", "open", "open")))
        empty = built({}, "sum", "boxes", room=1)
        self.same(all_right_steps(empty, "sum", (1, 0), ALL, 1), (("barred",), ("empty",), ("open",)))

    def test_by_the_words(self):
        draw = random.Random(53)
        for _ in range(200):
            index, _, kind, vector, sieve, reach = some_case(draw, 6)
            steps = steps_by_words(index.lot, lambda word, lot: is_right_by_words(word, kind, vector, sieve, reach, lot))
            self.same(self.unchanged(right_count, index, kind, vector, sieve, reach), len(steps))
            if len(steps) <= 1000:
                self.same(self.unchanged(all_right_steps, index, kind, vector, sieve, reach), tuple(sorted(steps)))
            else:
                self.refuses(Refused("many"), all_right_steps, index, kind, vector, sieve, reach)

    def test_just_1000_and_more(self):
        def flat(many):
            """Returns an index of lots, each of which has so many right steps: 2 or 3."""
            lots = [(("box", (9 if own == 3 else 0,), (9,)), (1, (("a", 1, 0, 0),)), ("items", (key,)))
                    for key, own in enumerate(many)]
            return Index("sum", "boxes", (("box", (0,), (9,)), (len(many), (("a", len(many), 0, 0),)),
                                          ("lots", tuple(lots))), 1)

        # A lot without the label "c" may be barred or opened, one at 9 may be far as well; the whole may be barred.
        sieve = ("has", "c")
        for many, wanted in (((2,) * 9, 513), ((2, 2, 2, 3, 3, 3, 3), 649), ((3, 3, 3, 3, 3, 2, 2), 973),
                             ((2,) * 10, 1025), ((3,) * 6 + (2,), 1459)):
            index = flat(many)
            self.same(right_count(index, "sum", (0,), sieve, 8), wanted)
            if wanted <= 1000:
                self.assertEqual(len(all_right_steps(index, "sum", (0,), sieve, 8)), wanted)
            else:
                self.refuses(Refused("many"), all_right_steps, index, "sum", (0,), sieve, 8)

    def test_the_limit_itself(self):
        def whole(lots):
            return Index("sum", "boxes", (("box", (0,), (9,)), (len(lots), (("c", 1, 0, 0),)), ("lots", tuple(lots))), 1)

        def lot_with(inner):
            return (("box", (0,), (9,)), (2, (("c", 1, 0, 0),)), ("lots", inner))

        def single(at, name):
            return (("box", (at,), (at,)), (1, ((name, 1, 0, 0),)), ("items", (0,)))

        # 10 = 3 * 3 + 1: far, barred or open twice, or all of it barred; so 10 * 10 * 10 = 1000.
        sieve, three = ("has", "c"), (single(9, "a"), single(9, "a"))
        ten = (("box", (0,), (9,)), (2, (("a", 2, 0, 0),)), ("lots", three))
        index = whole((ten, ten, ten))
        self.same(right_count(index, "sum", (0,), sieve, 8), 1000)
        self.assertEqual(len(all_right_steps(index, "sum", (0,), sieve, 8)), 1000)
        # 1001 = 7 * 11 * 13, of which 7 is 2 * 3 + 1, 11 is 5 * 2 + 1 and 13 is 4 * 3 + 1.
        two = single(0, "a")
        barred = (("box", (0,), (9,)), (2, (("a", 2, 0, 0),)))
        five = barred + (("lots", (two, two)),)
        seven = barred + (("lots", (two, single(9, "a"))),)
        eleven = barred + (("lots", (five, two)),)
        four = barred + (("lots", (single(9, "a"), lot_with((single(0, "c"), single(0, "c"))))),)
        thirteen = barred + (("lots", (four, single(9, "a"))),)
        index = whole((seven, eleven, thirteen))
        self.same(right_count(index, "sum", (0,), sieve, 8), 1001)
        self.refuses(Refused("many"), all_right_steps, index, "sum", (0,), sieve, 8)

    def test_400_items(self):
        draw = random.Random(54)
        state = some_state(draw, 400, 2, 100)
        index = built(state, "sum", "boxes", room=1)
        self.assertGreater(right_count(index, "sum", (0, 0), ("has", "nobody"), 1), 10 ** 100)
        self.refuses(Refused("many"), all_right_steps, index, "sum", (0, 0), ("has", "nobody"), 1)

    def test_steps_of_keys(self):
        for steps, numbers in ((("open", "open", "far"), [1, 1, 2, None]), (("barred",), [0, 0, 0, None]),
                               (("open", "barred", "open"), [1, 1, 2, None])):
            self.same([step_of_key(INDEX, steps, key) for key in (1, 2, 3, 4)], numbers)
        self.assertIsNone(step_of_key(index=built({}, "sum", "boxes", room=1), steps=("open",), key=1))
        draw = random.Random(55)
        for _ in range(150):
            index, state, kind, vector, sieve, reach = some_case(draw)
            steps = draw.choice(steps_by_words(index.lot, lambda word, lot: is_right_by_words(
                word, kind, vector, sieve, reach, lot)))
            met = met_by_words(index.lot, steps)[0]
            for key in state:
                # The lots that hold it are met one behind another; the last one of them counts.
                own = [at for at, lot in enumerate(met) if key in keys_by_words(lot)]
                self.same(step_of_key(index, steps, key), own[-1])


if __name__ == "__main__":
    unittest.main()
