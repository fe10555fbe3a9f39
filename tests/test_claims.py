"""[98], [99]: claims."""

import random
import unittest

from helper import (ALL, FORMS, KINDS, Awkward, Case, all_right_by_words, answer_by_words, odd_values, some_filter,
                    some_commands, some_index, some_labels, some_state, some_vector)
from nonearer.building import built
from nonearer.changes import is_tidy, with_item
from nonearer.claims import failing, holds, shown_answer
from nonearer.judge import is_right
from nonearer.lots import Index, is_sound
from nonearer.papers import Paper, paper_of
from nonearer.plain import done_all, nearest, state_of
from nonearer.runs import run_commands
from nonearer.together import Together, together

STATE = {1: (1, (0, 0), ()), 2: (2, (3, 0), (("a", 1),)), 3: (3, (9, 9), (("new", 4),))}
OTHER = {4: (4, (1, 1), ())}
INDEX = built(STATE, "sum", "boxes", room=2)
# Sound, but not tidy: its room is less than its lot has items, or its region is too great.
LOOSE = Index("sum", "boxes", (("box", (0, 0), (9, 10)),) + INDEX.lot[1:], 2)
QUESTION = ("sum", (1, 0), 2, ALL)
ANSWER = ((1, 1), (2, 2))
PAPER = Paper(ANSWER, ("open", "open", "far"))
SHARDS = ((INDEX, STATE), (built(OTHER, "sum", "cells", room=1), OTHER), (built({}, "sum", "balls", room=9), {}))
SHOWN = together(SHARDS, QUESTION)
DEEDS = (("put", (5, (0, 0), ())), ("take", 1), ("put", (5, (2, 2), ())))
AFTER = {2: STATE[2], 3: STATE[3], 5: (5, (0, 0), ())}
REST = ("rest", 2)
COMMANDS = (("do", DEEDS[0]), ("sync",), ("ask", QUESTION), ("cut", (0, 0)))
RESULTS = run_commands(COMMANDS, ("rest", 2), 2, kind="sum")

CLAIMS = (("answer", STATE, QUESTION, ANSWER), ("sound", INDEX, STATE), ("tidy", INDEX, STATE),
          ("paper", INDEX, STATE, QUESTION, PAPER), ("together", SHARDS, QUESTION, SHOWN),
          ("left", STATE, DEEDS, (0, 1), AFTER), ("run", COMMANDS, RESULTS, ("rest", 2), 2, "sum"))

# For each claim, by the place of one part, values with which it does not hold.
LONG = {**STATE, 4: (4, (1,), ())}
SHORT = {1: (1, (0,), ())}
WRONG = (
    {1: [{}, OTHER, LONG, SHORT, {1: STATE[2]}, {True: STATE[1]}, {1: list(STATE[1])}, {**STATE, 7: (7, (1, 0), ())}],
     2: [QUESTION[:3], ("sum", (1,), 2, ALL), ("sum", (1, 0), 1, ALL), ("sum", (1, 0), 3, ALL), ("square", (1, 0), 2, ALL),
         ("sum", (1, 0), True, ALL), ("sum", (1, 0), 2, ("has", "a")), list(QUESTION), ("sum", [1, 0], 2, ALL)],
     3: [(), ANSWER[:1], ANSWER[::-1], ((1, 1), (2, 3)), list(ANSWER), ((True, 1), (2, 2)), ANSWER + ((17, 3),)]},
    {1: [LOOSE.lot, SHARDS[1][0], Index("sum", "balls", INDEX.lot, 2), Index("sums", "boxes", INDEX.lot, 2),
         Index("sum", "boxes", INDEX.lot, 1), Index("sum", "boxes", None, 2), Index(None, None, None, None)],
     2: [{}, OTHER, LONG, SHORT, {1: STATE[1], 2: STATE[2]}, {1: STATE[1], 2: STATE[2], 3: None}]},
    {1: [LOOSE, SHARDS[1][0], Index("sum", "boxes", None, 2), Index("sum", "boxes", INDEX.lot, 3)],
     2: [{}, OTHER, LONG, SHORT, {1: STATE[1], 2: STATE[2]}]},
    {1: [SHARDS[1][0], built(STATE, "square", "boxes", room=2), Index("sum", "boxes", INDEX.lot, 1),
         Index("sum", "boxes", (("box", (0, 0), (8, 9)),) + INDEX.lot[1:], 2)],
     2: [{}, OTHER, LONG, SHORT, {1: STATE[1], 2: STATE[2]}],
     3: [QUESTION[:3], ("sum", (1,), 2, ALL), ("sum", (1, 0), 1, ALL), ("square", (1, 0), 2, ALL), ("sum", (1, 0), 3, ALL)],
     4: [ANSWER, SHOWN, Paper(ANSWER, ("open", "far", "far")), Paper(ANSWER[:1], PAPER.steps), Paper(ANSWER, None),
         Paper(None, PAPER.steps), Paper(list(ANSWER), PAPER.steps)]},
    {1: [(), SHARDS[:2], SHARDS[::-1], SHARDS + SHARDS[:1], SHARDS[:2] + (SHARDS[2] + (0,),), list(SHARDS),
         (SHARDS[0], SHARDS[1], (SHARDS[2][0], OTHER)), (SHARDS[0], SHARDS[1], None), (SHARDS[0][::-1],) + SHARDS[1:],
         SHARDS[:2] + ((built({}, "most", "balls", room=9), {}),), (SHARDS[0], SHARDS[1], (None, {})),
         (SHARDS[0], (built(SHORT, "sum", "balls", room=1), SHORT), SHARDS[2])],
     2: [QUESTION[:3], ("sum", (1,), 2, ALL), ("sum", (1, 0), 1, ALL), ("square", (1, 0), 2, ALL)],
     3: [PAPER, Together(SHOWN.answer, SHOWN.steps[:2]), Together(SHOWN.answer[:1], SHOWN.steps), Together(None, None),
         Together(ANSWER, SHOWN.steps)]},
    {1: [{}, OTHER, LONG, SHORT, {1: STATE[1]}], 2: [DEEDS[:1], list(DEEDS), DEEDS + (("drop", 1),), (("put", (5, (0,), ())),) + DEEDS[1:],
                                                   (("put", (5, (0, 0, 0), ())),) + DEEDS[1:], (DEEDS[2], DEEDS[1]), ()],
     3: [(0, 1, 2), (1, 0), (0, 0), (0, 3), [0, 1], (True,), (0, 1.0), (-1, 0, 1), 0],
     4: [{}, STATE, LONG, SHORT, {**AFTER, 9: (9, (0, 0), ())}, {**AFTER, 5: (5, (0, 1), ())}, {**AFTER, 5: (5, (0,), ())}]},
    {1: [COMMANDS[:3], list(COMMANDS), COMMANDS + (("sync",),), (("do", ("put", (5, (0,), ()))),) + COMMANDS[1:], ("sync",) * 4,
         (("do", ("take", 5)),) + COMMANDS[1:]],
     2: [RESULTS[:3], list(RESULTS), RESULTS + (("ok",),), (), RESULTS[:2] + (("answer", ()),) + RESULTS[3:],
         RESULTS[:3] + (("opened", ()),)],
     3: [("rest", 0), ("rest", 1), ("keys", [5]), ("centres", "sum", ((0,), (1,)))],
     4: [0, 1, 3, -2, True, "2", 2.0], 5: ["most", "sums", ("sum",), 0]})


class HoldsTest(Case):

    def test_what_holds(self):
        for claim in CLAIMS:
            self.assertIs(self.unchanged(holds, claim), True)
        self.assertIs(holds(value=("sound", LOOSE, STATE)), True)
        self.assertIs(holds(("paper", LOOSE, STATE, QUESTION, PAPER)), True)
        self.assertIs(is_tidy(LOOSE, STATE), False)
        self.assertIs(holds(("run", COMMANDS, RESULTS[:3] + (("opened", (DEEDS[0][1],)),), ("keys", (5,)), 2, "sum")), True)

    def test_claims_about_nothing(self):
        for form in FORMS:
            index = built({}, "sum", form, room=1)
            for claim in (("sound", index, {}), ("tidy", index, {}), ("paper", index, {}, QUESTION, Paper((), ("empty",)))):
                self.assertIs(holds(claim), True)
        for claim in (("answer", {}, QUESTION, ()), ("together", (), QUESTION, Together((), ())), ("left", {}, (), (), {}),
                      ("run", (), (), ("keys", ()), 1, "most"), ("left", {}, DEEDS, (), {}), ("left", {}, (("take", 3),), (0,), {})):
            self.assertIs(holds(claim), True)
        self.assertIs(holds(("left", {}, (), (), SHORT)), False)

    def test_claims_about_nothing_that_do_not_hold(self):
        empty = Together((), ())
        for question in odd_values() + [QUESTION[:3], ("sum", (1, 0), 0, ALL), ("sums", (1, 0), 1, ALL), 0]:
            self.assertIs(holds(("together", (), question, empty)), False)
            self.assertIs(holds(("answer", {}, question, ())), False)
        for shards in odd_values() + [[], "", 0]:
            self.assertIs(holds(("together", shards, QUESTION, empty)), False)
        for spread, places, kind in ((REST, 0, "sum"), (REST, -1, "sum"), (REST, True, "sum"), (REST, None, "sum"),
                                     (REST, 2, "sums"), (REST, 2, None), (("rest", 0), 2, "sum"), (None, 2, "sum")):
            self.assertIs(holds(("run", (), (), spread, places, kind)), False)
        self.assertIs(holds(("run", (), (), REST, 2, "sum")), True)
        self.assertIs(holds(("left", {}, [], (), {})), False)
        self.assertIs(holds(("left", {}, (), [], {})), False)

    def test_vectors_with_other_numbers_of_places(self):
        index = built(SHORT, "sum", "boxes", room=1)
        mixed = ((index, SHORT), SHARDS[1])
        question = ("sum", (1,), 1, ALL)
        answer = nearest(SHORT, question)
        self.assertIs(holds(("answer", SHORT, question, answer)), True)
        self.assertIs(holds(("paper", index, SHORT, question, paper_of(index, question, answer))), True)
        for question in (QUESTION, ("sum", (1, 0), 1, ALL), ("sum", (), 1, ALL)):
            # The distances are those that all places of one vector tell; but the other has more, or fewer.
            answer = nearest(SHORT, question)
            self.assertIs(holds(("answer", SHORT, question, answer)), False)
            self.assertIs(holds(("paper", index, SHORT, question, paper_of(index, question, answer))), False)
            self.assertIs(holds(("together", mixed, question, together(mixed, question))), False)
            self.assertIs(holds(("together", mixed[:1], question, together(mixed[:1], question))), False)
        for before, deeds, after in ((SHORT, (), {**SHORT, **OTHER}), ({**SHORT, **OTHER}, (), {**SHORT, **OTHER}),
                                     (SHORT, (("put", OTHER[4]),), {**SHORT, **OTHER}), ({}, (("put", SHORT[1]),), OTHER)):
            self.assertIs(holds(("left", before, deeds, (), after)), False)

    def test_shards_with_a_common_key(self):
        for shards in (((INDEX, STATE),) * 2, SHARDS + ((built(OTHER, "sum", "balls", room=3), OTHER),)):
            self.assertIs(holds(("together", shards, QUESTION, together(shards, QUESTION))), False)

    def test_any_value(self):
        for value in odd_values() + [(), "answer", ("answer",), ("claim", STATE), (None,), ("",), ("tidy", INDEX), 0, [1, 2],
                                     (("answer",),), (b"sound", INDEX, STATE)]:
            self.assertIs(holds(value), False)
        for claim in CLAIMS:
            for wrong in (list(claim), claim[:-1], claim + (None,), claim[1:], (claim,), claim[:1]):
                self.assertIs(holds(wrong), False)

    def test_one_part_of_any_kind(self):
        for claim in CLAIMS:
            for at in range(len(claim)):
                for odd in odd_values() + [(), 0, 1, "sum", ((),), ("put",), (None, None), {1: None}, {"a": 1}, {None: 2}]:
                    if claim[at] is odd or (at == 4 and claim[0] == "left" and isinstance(odd, tuple)):
                        continue
                    value = claim[:at] + (odd,) + claim[at + 1:]
                    # Without deeds before the last safe ones, no deed need be safe.
                    is_right = claim[0] == "left" and at == 3 and isinstance(odd, tuple) and odd == ()
                    is_right = is_right or (claim[0] == "run" and at == 5 and odd.__class__ is str)
                    self.assertIs(holds(value), is_right, (claim[0], at))

    def test_one_part_changed(self):
        for claim, changes in zip(CLAIMS, WRONG):
            for at, values in changes.items():
                for value in values:
                    self.assertIs(self.unchanged(holds, claim[:at] + (value,) + claim[at + 1:]), False, (claim[0], at, value))

    def test_awkward_values_inside(self):
        odd = Awkward()
        for value in (("answer", STATE, QUESTION, (odd,)), ("answer", {1: odd}, QUESTION, ANSWER),
                      ("answer", STATE, ("sum", (1, odd), 2, ALL), ANSWER), ("answer", STATE, QUESTION, ((1, odd),)),
                      ("sound", Index(odd, odd, odd, odd), STATE), ("tidy", Index("sum", "boxes", odd, 2), STATE),
                      ("sound", Index("sum", "boxes", (odd, odd, ("items", (1, 2, 3))), 3), STATE),
                      ("sound", Index("sum", "boxes", (INDEX.lot[0], (odd, odd), ("items", (1, 2, 3))), 3), STATE),
                      ("paper", INDEX, STATE, QUESTION, Paper(odd, odd)), ("paper", INDEX, STATE, QUESTION, Paper(ANSWER, (odd,))),
                      ("together", ((odd, odd),), QUESTION, SHOWN), ("together", ((INDEX, {1: odd}),), QUESTION, SHOWN),
                      ("together", SHARDS, QUESTION, Together(ANSWER, (odd, odd, odd))), ("left", {1: odd}, DEEDS, (), {}),
                      ("left", {}, (odd,), (), {}), ("left", {}, DEEDS, (odd,), {}), ("left", {}, (("put", odd),), (), {}),
                      ("left", {}, (("put", (1, odd, ())),), (), {}), ("left", {}, (("put", (1, (odd,), ())),), (), {}),
                      ("run", (odd,), (odd,), ("rest", 2), 2, "sum"), ("run", COMMANDS, (odd,) * 4, ("rest", 2), 2, "sum"),
                      ("run", COMMANDS, RESULTS[:3] + (("opened", (odd,)),), ("rest", 2), 2, "sum"),
                      ("run", COMMANDS, RESULTS[:3] + ((odd, odd),), ("rest", 2), 2, "sum"),
                      ("run", COMMANDS, RESULTS, ("rest", odd), 2, "sum"), ("run", COMMANDS, RESULTS, (odd, 2), 2, "sum")):
            self.assertIs(holds(value), False)

    def test_random_claims(self):
        draw = random.Random(99)
        held = 0
        for _ in range(200):
            kind, places = draw.choice(KINDS), draw.randint(1, 2)
            state = some_state(draw, draw.randint(0, 6), places, 2)
            index = some_index(draw, state, kind, draw.choice(FORMS))
            question = kind, some_vector(draw, places), draw.randint(1, 4), draw.choice((ALL, some_filter(draw, 2)))
            answer = answer_by_words(state, question)
            reach = answer[-1][0] if len(answer) == question[2] else None
            steps = draw.choice(all_right_by_words(index, kind, question[1], question[3], reach)[:50])
            self.assertIs(holds(("answer", state, question, answer)), True)
            self.assertIs(holds(("sound", index, state)), True)
            self.assertIs(holds(("tidy", index, state)), is_tidy(index, state))
            self.assertIs(holds(("paper", index, state, question, Paper(answer, steps))), True)
            self.assertIs(holds(("together", ((index, state),), question, Together(answer, (steps,)))), True)
            key = draw.randint(0, 40)
            item = (key, some_vector(draw, places), some_labels(draw))
            after = done_all(state, (("put", item),))
            self.assertIs(holds(("left", state, (("put", item),), (0,), after)), True)
            self.assertIs(holds(("left", state, (("put", item),), (0,), state)), after == state)
            other = answer_by_words(after, question)
            self.assertIs(holds(("answer", after, question, answer)), other == answer)
            sound, paper = is_sound(index, after), Paper(answer, steps)
            self.assertIs(holds(("sound", index, after)), sound)
            self.assertIs(holds(("paper", index, after, question, paper)), sound and is_right(index, after, question, paper))
            tidy = built(state, kind, draw.choice(FORMS), room=2)
            self.assertIs(holds(("tidy", *with_item(tidy, state, item))), True)
            self.assertIs(holds(("paper", tidy, state, question, paper_of(tidy, question, answer))), True)
            held += other == answer
        self.assertGreater(held, 20)
        self.assertLess(held, 190)

    def test_random_runs(self):
        draw = random.Random(100)
        for _ in range(40):
            commands, kind = some_commands(draw, 8), draw.choice(KINDS)
            results = run_commands(commands, ("rest", 2), 2, kind=kind)
            self.assertIs(holds(("run", commands, results, ("rest", 2), 2, kind)), True)
            self.assertIs(holds(("run", commands + (("count",),), results + (("count", 99),), ("rest", 2), 2, kind)), False)


class SeveralTest(Case):

    def test_failing(self):
        self.same(failing(claims=CLAIMS), ())
        self.same(failing(()), ())
        mixed = (None, CLAIMS[0], ("answer", STATE, QUESTION, ()), CLAIMS[6], 5, [CLAIMS[1]], CLAIMS[1])
        self.same(failing(mixed), (0, 2, 4, 5))
        self.same(failing(tuple(odd_values())), tuple(range(len(odd_values()))))

    def test_shown_answers(self):
        whole = {**STATE, **OTHER}
        for claim, wanted in zip(CLAIMS, ((STATE, QUESTION, ANSWER), None, None, (STATE, QUESTION, ANSWER),
                                          (whole, QUESTION, SHOWN.answer), None, None)):
            self.assertEqual(self.unchanged(shown_answer, claim), wanted)
        self.assertEqual(shown_answer(claim=("together", (), QUESTION, Together((), ()))), ({}, QUESTION, ()))

    def test_what_is_shown_may_be_changed(self):
        for claim in (CLAIMS[0], CLAIMS[3], CLAIMS[4]):
            shown_answer(claim)[0].clear()
            self.assertIs(holds(claim), True)

    def test_answers_are_equal(self):
        draw = random.Random(101)
        for _ in range(60):
            kind = draw.choice(KINDS)
            state = some_state(draw, draw.randint(0, 8), 2, 2)
            question = kind, some_vector(draw, 2), draw.randint(1, 4), draw.choice((ALL, some_filter(draw, 2)))
            index = some_index(draw, state, kind, draw.choice(FORMS))
            parts = [{}, {}]
            for key, item in state.items():
                draw.choice(parts)[key] = item
            shards = tuple((built(part, kind, draw.choice(FORMS), room=2), part) for part in parts)
            answer = answer_by_words(state, question)
            claims = (("answer", state_of(tuple(state.values())), question, answer),
                      ("paper", index, state, question, paper_of(index, question, answer)),
                      ("together", shards, question, together(shards, question)))
            self.same(failing(claims), ())
            for claim in claims:
                self.assertEqual(shown_answer(claim), (state, question, answer))


if __name__ == "__main__":
    unittest.main()
