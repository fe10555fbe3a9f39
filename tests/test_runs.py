"""[96], [97]: runs of commands, and the judge of runs."""

import random
import unittest

from helper import ALL, FORMS, KINDS, Case, answer_by_words, odd_values, some_commands
from nonearer.cuts import cut
from nonearer.disk import Disk
from nonearer.errors import InvalidText, Refused
from nonearer.plain import done, done_all, state_of
from nonearer.printer import show_answer
from nonearer.runs import run_commands, run_fault, run_script, show_result
from nonearer.scripts import show_script
from nonearer.spread import shard_count
from nonearer.store import Store
from nonearer.tales import may_be_left

FOUR, NINE = (4, (0, 0), ()), (9, (3, 1), (("red", 1),))
PUT4, PUT9 = ("do", ("put", FOUR)), ("do", ("put", NINE))
SPREADS = (("rest", 1), ("rest", 2), ("keys", (10, 20)), ("centres", "most", ((0, 0), (3, 3))))
REST = ("rest", 2)


def results_by_words(commands, spread, places, kind, form, room):
    """Returns the results of commands, as [96] says, by a store and its disks."""
    disks = tuple(Disk({}) for _ in range(shard_count(spread)))

    def opened():
        return Store(disks, spread, places, kind=kind, form=form, room=room)

    def told():
        items = store.all_items()
        return "opened", tuple(items[key] for key in sorted(items))

    store, results = opened(), []
    for word, *rest in commands:
        try:
            if word == "do":
                shard = store.put(rest[0][1]) if rest[0][0] == "put" else store.take(rest[0][1])
                results.append(("none",) if shard is None else ("shard", shard))
            elif word == "ask":
                results.append(("answer", store.ask(rest[0]).answer))
            elif word == "sync":
                store.sync()
                results.append(("ok",))
            elif word == "level":
                results.append(("moves", len(store.level())))
            elif word == "count":
                results.append(("count", len(store.all_items())))
            elif word == "keys":
                results.append(("keys", tuple(sorted(store.all_items()))))
            elif word == "fold":
                results.append(("shards", store.fold(rest[0])))
            elif word == "cut":
                numbers = rest[0]
                disks = tuple(cut(disk, (numbers[at],) * 24 if at < len(numbers) else ()) for at, disk in enumerate(disks))
                store = opened()
                results.append(told())
            elif word == "move":
                store.move(*rest)
                results.append(("ok",))
            else:
                store.move(*rest[1:], stop=rest[0])
                if rest[0] < 7:
                    store = opened()
                results.append(told() if rest[0] < 7 else ("ok",))
        except Refused as refused:
            results.append(("refused", refused.word))
    return tuple(results)


def is_right_by_words(state, before, deeds, safe, command, value, spread, kind):
    """Returns whether a result, whose values are of the right kinds, is right, as [97] says."""
    word, *rest = command
    shards = shard_count(spread)
    if word == "do":
        if rest[0][0] == "take" and rest[0][1] not in state:
            return value == ("none",)
        return value in [("shard", shard) for shard in range(shards)]
    if word == "ask":
        return value == (("answer", answer_by_words(state, rest[0])) if rest[0][0] == kind else ("refused", "kind"))
    if word in ("sync", "count", "keys"):
        return value == {"sync": ("ok",), "count": ("count", len(state)), "keys": ("keys", tuple(sorted(state)))}[word]
    if word == "level":
        return value[0] == "moves"
    if word == "fold":
        return value[0] == "shards" and all(shard < shards for shard in value[1]) and sorted(set(value[1])) == list(value[1])
    if word == "cut":
        if value[0] != "opened" or [item[0] for item in value[1]] != sorted({item[0] for item in value[1]}):
            return False
        return may_be_left(before, deeds, safe, state_of(value[1]))
    source, target, keys = rest[-3:]
    if source == target or max(source, target) >= shards:
        return value == ("refused", "shard")
    if value == ("refused", "keys"):
        return True
    if any(key not in state for key in keys):
        return False
    if word == "stop" and rest[0] < 7:
        return value == ("opened", tuple(state[key] for key in sorted(state)))
    return value == ("ok",)


def fault_by_words(commands, results, spread, kind):
    """Returns the number of the first of some results, of values of the right kinds, that is not right."""
    state, before, deeds, synced = {}, {}, (), 0
    for number, command in enumerate(commands):
        if number == len(results):
            return number
        value = results[number]
        safe = tuple(range(synced))
        if not is_right_by_words(state, before, deeds, safe, command, value, spread, kind):
            return number
        if command[0] == "do":
            deeds, state = deeds + (command[1],), done(state, command[1])
        elif command[0] == "sync":
            synced = len(deeds)
        elif value[0] == "opened":
            state = state_of(value[1])
            before, deeds, synced = state, (), 0
    return len(commands) if len(results) > len(commands) else None


class RunTest(Case):

    def test_the_example(self):
        text = ("put 4: 0 0\nsync\nput 9: 3 1, red 1\nask 2 nearest to 1 0 by sum\ncut 0 0\n"
                "ask 1 nearest to 3 1 by sum")
        self.same(run_script(text, REST, 2, kind="sum"),
                  ("shard 0", "ok", "shard 1", "4 at 1, 9 at 3", "opened 4", "4 at 4"))

    def test_each_command(self):
        for command, result in ((("do", ("put", (4, (1, 1), ()))), ("shard", 0)), (("do", ("put", (7, (1, 1), ()))), ("shard", 1)),
                                (("do", ("take", 4)), ("shard", 0)), (("do", ("take", 5)), ("none",)),
                                (("ask", ("sum", (1, 0), 1, ALL)), ("answer", ((1, 4),))),
                                (("ask", ("sum", (1, 0), 9, ALL)), ("answer", ((1, 4), (3, 9)))),
                                (("ask", ("sum", (1, 0), 1, ("not", ALL))), ("answer", ())),
                                (("ask", ("square", (1, 0), 1, ALL)), ("refused", "kind")), (("sync",), ("ok",)),
                                (("level",), ("moves", 0)), (("count",), ("count", 2)), (("keys",), ("keys", (4, 9))),
                                (("fold", 0), ("shards", (0, 1))), (("fold", 9), ("shards", (1,))), (("fold", 99), ("shards", ())),
                                (("cut", ()), ("opened", (FOUR, NINE))), (("cut", (0,)), ("opened", (NINE,))),
                                (("cut", (0, 0)), ("opened", ())), (("cut", (99, 0)), ("opened", (FOUR,))),
                                (("cut", (99, 99, 0, 0)), ("opened", (FOUR, NINE))), (("cut", (8, 12)), ("opened", (FOUR,))), (("cut", (7, 13)), ("opened", (NINE,))),
                                (("move", 0, 1, (4,)), ("ok",)), (("move", 1, 0, (4,)), ("refused", "keys")),
                                (("move", 0, 0, (4,)), ("refused", "shard")), (("move", 0, 2, (4,)), ("refused", "shard")),
                                (("stop", 7, 0, 1, (4,)), ("ok",)), (("stop", 0, 0, 1, (4,)), ("opened", (FOUR, NINE))),
                                (("stop", 3, 0, 1, (4,)), ("opened", (FOUR, NINE))), (("stop", 6, 1, 0, (4,)), ("refused", "keys")),
                                (("stop", 0, 2, 0, (4,)), ("refused", "shard"))):
            self.same(run_commands((PUT4, PUT9, command), REST, 2, kind="sum"), (("shard", 0), ("shard", 1), result))
        self.same(run_commands(commands=(), spread=REST, places=2), ())
        self.same(run_commands((("count",), ("keys",), ("cut", ()), ("fold", 0)), ("keys", ()), 3),
                  (("count", 0), ("keys", ()), ("opened", ()), ("shards", ())))

    def test_the_defaults(self):
        self.same(run_commands((PUT4, ("ask", ("square", (3, 0), 1, ALL))), REST, 2), (("shard", 0), ("answer", ((9, 4),))))
        self.same(run_script("put 4: 0 0\nask 1 nearest to 3 0 by square", REST, 2), ("shard 0", "4 at 9"))
        for call in (run_commands, run_script):
            self.assertRaises(TypeError, call, (), REST, 2, "sum")

    def test_what_is_refused_changes_nothing(self):
        commands = (PUT4, PUT9, ("stop", 3, 1, 0, (4,)), ("move", 0, 5, (4,)), ("cut", (0, 0)))
        self.same(run_commands(commands, REST, 2)[2:], (("refused", "keys"), ("refused", "shard"), ("opened", ())))
        # Without a refusal the store is opened anew, so that all is safe.
        commands = (PUT4, PUT9, ("stop", 3, 0, 1, (4,)), ("cut", (0, 0)), ("do", ("take", 4)))
        self.same(run_commands(commands, REST, 2)[2:], (("opened", (FOUR, NINE)),) * 2 + (("shard", 1),))

    def test_stops_behind_each_step(self):
        for steps in range(8):
            commands = (PUT4, PUT9, ("stop", steps, 0, 1, (4,)), ("do", ("take", 4)), ("level",), ("keys",))
            results = run_commands(commands, REST, 2)
            self.same(results[2], ("ok",) if steps == 7 else ("opened", (FOUR, NINE)))
            self.same(results[3:], (("shard", 0 if steps < 3 else 1), ("moves", 0), ("keys", (9,))))
            self.assertIsNone(run_fault(commands, results, REST, 2))

    def test_wrong_arguments(self):
        self.refuses(Refused("spread"), run_commands, (), ("rest", 0), 2)
        self.refuses(Refused("kind"), run_commands, (), REST, 2, kind="sums")
        self.refuses(Refused("form"), run_script, "", REST, 2, form="ball")
        for text in odd_values() + [0, ("sync",)]:
            self.refuses(InvalidText(-1, -1), run_script, text, REST, 2)
        self.refuses(InvalidText(1, 0), run_script, "sync\nsync 1\n?", REST, 2)

    def test_show_results(self):
        for result, line in ((("answer", ()), "none"), (("answer", ((25, 7), (30, 2))), "7 at 25, 2 at 30"), (("none",), "none"),
                             (("shard", 3), "shard 3"), (("ok",), "ok"), (("moves", 0), "moves 0"), (("count", 12), "count 12"),
                             (("keys", ()), "keys"), (("keys", (4, 9)), "keys 4 9"), (("shards", ()), "shards"),
                             (("shards", (0, 1, 5)), "shards 0 1 5"), (("opened", ()), "opened"),
                             (("opened", (FOUR, NINE)), "opened 4 9"), (("refused", "kind"), "refused kind"),
                             (("refused", "shard"), "refused shard"), (("refused", "keys"), "refused keys")):
            self.same(self.unchanged(show_result, result), line)
        self.same(show_result(result=("answer", ((1, 2),))), show_answer(((1, 2),)))

    def test_by_the_words(self):
        draw = random.Random(96)
        words = set()
        for _ in range(150):
            commands, spread = some_commands(draw), draw.choice(SPREADS)
            named = {"kind": draw.choice(KINDS), "form": draw.choice(FORMS), "room": draw.choice((1, 8))}
            results = self.unchanged(run_commands, commands, spread, 2, **named)
            self.same(results, results_by_words(commands, spread, 2, **named))
            self.same(run_script(show_script(commands), spread, 2, **named), tuple(show_result(one) for one in results))
            self.assertIsNone(self.unchanged(run_fault, commands, results, spread, 2, kind=named["kind"]))
            words |= {(command[0], result[0]) for command, result in zip(commands, results)}
        for pair in (("do", "shard"), ("do", "none"), ("ask", "answer"), ("ask", "refused"), ("cut", "opened"), ("move", "ok"),
                     ("move", "refused"), ("stop", "opened"), ("stop", "refused"), ("stop", "ok"), ("fold", "shards")):
            self.assertIn(pair, words)

    def test_answers_are_those_of_what_is_left(self):
        draw = random.Random(97)
        for _ in range(60):
            commands = some_commands(draw)
            results = run_commands(commands, REST, 2, kind="sum", room=1)
            state = {}
            for command, result in zip(commands, results):
                if command[0] == "do":
                    state = done(state, command[1])
                elif result[0] == "opened":
                    state = state_of(result[1])
                elif result[0] == "answer":
                    self.same(result[1], answer_by_words(state, command[1]))


class FaultTest(Case):

    def check(self, commands, rows, spread=REST, kind="sum"):
        """Asserts for `(value, is_right)` whether a value is a right result of the last command, behind right results."""
        start = run_commands(commands[:-1], spread, 2, kind=kind)
        self.assertIsNone(run_fault(commands[:-1], start, spread, 2, kind=kind))
        for value, is_right in rows:
            wanted = None if is_right else len(start)
            self.same(run_fault(commands, start + (value,), spread, 2, kind=kind), wanted)
            # What comes behind a wrong result does not matter.
            self.same(run_fault(commands + (("count",),) * 2, start + (value,), spread, 2, kind=kind),
                      len(start) + 1 if is_right else len(start))

    def wrong(self):
        """Returns values that are no results at all."""
        wrong = odd_values() + [(), "ok", ["ok"], (None,), ("no",), (("ok",),), ("ok", 1), 0]
        wrong += [(odd, thing) for odd in odd_values() for thing in (0, (), 1)] + [(odd,) for odd in odd_values()]
        wrong += [(word, odd) for word in ("shard", "answer", "moves", "count", "keys", "shards", "opened", "refused")
                  for odd in odd_values()]
        return [(value, False) for value in wrong]

    def test_the_shape(self):
        commands, results = (PUT4, ("count",)), (("shard", 0), ("count", 1))
        self.assertIsNone(run_fault(commands=commands, results=results, spread=REST, places=2, kind="sum"))
        self.assertIsNone(run_fault((), (), REST, 2))
        for odd in odd_values() + [list(results), "no", 0]:
            self.same(run_fault(commands, odd, REST, 2), 0)
            self.same(run_fault((), odd, REST, 2), 0)
        for value, wanted in (((), 0), (results[:1], 1), (results + (("ok",),), 2), (results + (None, None), 2),
                              ((None,) + results, 0), (results[:1] + (None, None), 1)):
            self.same(run_fault(commands, value, REST, 2), wanted)
        self.same(run_fault((), (None,), REST, 2), 0)
        self.assertRaises(TypeError, run_fault, commands, results, REST, 2, "sum")
        # The kind is "square" unless another one is given.
        commands = (("ask", ("square", (0, 0), 1, ALL)),)
        self.assertIsNone(run_fault(commands, (("answer", ()),), REST, 2))
        self.same(run_fault(commands, (("answer", ()),), REST, 2, kind="most"), 0)

    def test_deeds(self):
        shards = [(("shard", 0), True), (("shard", 1), True), (("shard", 2), False), (("shard", -1), False),
                  (("shard", True), False), (("shard", 0.0), False), (("shard", (0,)), False), (("shard",), False),
                  (("shard", 0, 0), False), (["shard", 0], False), (("none",), False), (("moves", 0), False)] + self.wrong()
        self.check((PUT9, PUT4), shards)
        self.check((PUT9, PUT9), shards)
        self.check((PUT9, ("do", ("take", 9))), shards)
        nothing = [(("none",), True), (("shard", 0), False), (("none", 0), False), (["none"], False)] + self.wrong()
        self.check((PUT9, ("do", ("take", 4))), nothing)
        self.check((PUT9, ("do", ("take", 9)), ("do", ("take", 9))), nothing)

    def test_questions(self):
        right = (("answer", ((1, 4), (3, 9))), True)
        self.check((PUT4, PUT9, ("ask", ("sum", (1, 0), 2, ALL))), [
            right, (("answer", ((1, 4),)), False), (("answer", ((1, 4), (4, 9))), False), (("answer", ((3, 9), (1, 4))), False),
            (("answer", [(1, 4), (3, 9)]), False), (("answer", ([1, 4], (3, 9))), False), (("answer", ((True, 4), (3, 9))), False),
            (("answer", ((1.0, 4), (3, 9))), False), (("answer", ()), False), (("answer",), False), (("refused", "kind"), False),
            (("none",), False), (("answers", right[0][1]), False)] + self.wrong())
        self.check((PUT4, PUT9, ("ask", ("most", (1, 0), 1, ALL))), [
            (("refused", "kind"), True), (("answer", ((1, 4),)), False), (("refused", "keys"), False), (("refused",), False),
            (("refused", "kind", 0), False)] + self.wrong())
        self.check((("ask", ("sum", (1, 0), 1, ALL)),), [(("answer", ()), True), (("answer", ((0, 0),)), False)])

    def test_syncs_counts_keys_and_levels(self):
        self.check((PUT4, ("sync",)), [(("ok",), True), (("ok", ()), False), (("count", 1), False)] + self.wrong())
        self.check((PUT4, ("count",)), [(("count", 1), True), (("count", 2), False), (("count", True), False),
                                        (("count", 1.0), False), (("count",), False), (("keys", 1), False)] + self.wrong())
        self.check((PUT4, PUT9, ("keys",)), [(("keys", (4, 9)), True), (("keys", (4,)), False), (("keys", (9, 4)), False),
                                             (("keys", [4, 9]), False), (("keys", (4, 9.0)), False), (("keys", 4), False),
                                             (("keys", (4, 9, 9)), False), (("keys",), False)] + self.wrong())
        self.check((PUT4, ("level",)), [(("moves", 0), True), (("moves", 7), True), (("moves", -1), False),
                                        (("moves", True), False), (("moves", ()), False), (("moves",), False),
                                        (("count", 0), False), (("moves", "1"), False)] + self.wrong())

    def test_folds(self):
        self.check((PUT4, ("fold", 0)), [(("shards", ()), True), (("shards", (0,)), True), (("shards", (0, 1)), True),
                                         (("shards", (1, 0)), False), (("shards", (0, 0)), False), (("shards", (2,)), False),
                                         (("shards", [0]), False), (("shards", 0), False), (("shards", (True,)), False),
                                         (("shards", (-1,)), False), (("shards",), False), (("keys", ()), False)] + self.wrong())

    def test_moves_and_stops(self):
        items = ("opened", (FOUR, NINE))
        for command in (("move", 0, 1, (4,)), ("stop", 7, 0, 1, (4,)), ("move", 1, 0, (4, 9))):
            self.check((PUT4, PUT9, command), [(("ok",), True), (("refused", "keys"), True), (("refused", "shard"), False),
                                               (items, False), (("refused",), False), (("refused", "kind"), False),
                                               (("moves", 1), False)] + self.wrong())
        for command in (("stop", 6, 0, 1, (4,)), ("stop", 0, 1, 0, (4, 9))):
            self.check((PUT4, PUT9, command), [(items, True), (("refused", "keys"), True), (("ok",), False),
                                               (("refused", "shard"), False), (("opened", (NINE, FOUR)), False),
                                               (("opened", (FOUR,)), False), (("opened", ()), False), (("opened",), False),
                                               (("opened", [FOUR, NINE]), False), (("opened", (4, 9)), False),
                                               (("opened", ((4, (0, 0.0), ()), NINE)), False),
                                               (("opened", (FOUR, NINE, NINE)), False)] + self.wrong())
        for word in (("move",), ("stop", 7), ("stop", 3)):
            for shards in ((0, 0), (0, 2), (2, 0), (5, 5), (9, 0)):
                self.check((PUT4, word + shards + ((4,),)), [(("refused", "shard"), True), (("refused", "keys"), False),
                                                             (("ok",), False), (("opened", (FOUR,)), False)] + self.wrong())
            for keys in ((9,), (4, 9), (1, 4)):
                self.check((PUT4, word + (0, 1) + (keys,)), [(("refused", "keys"), True), (("refused", "shard"), False),
                                                             (("ok",), False), (("opened", (FOUR,)), False)] + self.wrong())
            # What lacks both a shard and a key is refused for the shard.
            self.check((PUT4, word + (0, 2) + ((9,),)), [(("refused", "shard"), True), (("refused", "keys"), False)])

    def test_cuts(self):
        red = (9, (3, 1), ())
        rows = [(("opened", ()), False), (("opened", (FOUR,)), True), (("opened", (NINE,)), False), (("opened", (FOUR, NINE)), True),
                (("opened", (FOUR, red)), False), (("opened", (NINE, FOUR)), False), (("opened", (FOUR, FOUR)), False),
                (("opened", [FOUR]), False), (("opened", ([4, (0, 0), ()],)), False), (("opened", ((4, (0, 0.0), ()),)), False),
                (("opened", ((4, (0,), ()),)), False), (("opened", (4,)), False), (("opened", FOUR), False), (("opened",), False),
                (("opened", (FOUR,), ()), False), (("opened", None), False), (("ok",), False), (("keys", (FOUR,)), False),
                (("opened", (FOUR, (5, (0, 0), ()))), False)] + self.wrong()
        self.check((PUT4, ("sync",), PUT9, ("cut", (0, 0))), rows)
        # What an opening tells is the state from then on, and none of it is lost any more.
        self.check((PUT4, PUT9, ("cut", (0, 99)), ("cut", (0, 0))), [(("opened", (NINE,)), True), (("opened", ()), False),
                                                                     (("opened", (FOUR, NINE)), False)])
        self.check((PUT4, ("stop", 3, 0, 1, (4,)), ("do", ("take", 4)), ("cut", (0, 0))),
                   [(("opened", (FOUR,)), True), (("opened", ()), True)])
        # A sync counts for what was done before it and behind the last opening alone.
        self.check((PUT4, ("sync",), ("do", ("take", 4)), PUT4, ("cut", ())),
                   [(("opened", (FOUR,)), True), (("opened", ()), True)])
        self.check((PUT4, ("sync",), ("cut", (0,)), ("do", ("take", 4)), ("do", ("take", 4)), ("cut", (0,))),
                   [(("opened", (FOUR,)), True), (("opened", ()), True)])
        self.check((PUT4, ("do", ("take", 4)), ("do", ("take", 4)), ("sync",), PUT4, ("cut", ())),
                   [(("opened", (FOUR,)), True), (("opened", ()), True)])
        self.check((PUT4, ("do", ("take", 4)), ("sync",), ("cut", ())), [(("opened", (FOUR,)), False), (("opened", ()), True)])
        self.check((("cut", ()),), [(("opened", ()), True), (("opened", (FOUR,)), False)])

    def test_an_opening_that_a_cut_left_is_the_state(self):
        commands = (PUT4, PUT9, ("cut", ()), ("count",), ("ask", ("sum", (3, 1), 1, ALL)))
        for items in ((), (FOUR,), (NINE,), (FOUR, NINE)):
            answer = answer_by_words(state_of(items), ("sum", (3, 1), 1, ALL))
            results = (("shard", 0), ("shard", 1), ("opened", items), ("count", len(items)), ("answer", answer))
            self.assertIsNone(run_fault(commands, results, REST, 2, kind="sum"))
            self.same(run_fault(commands, results[:3] + (("count", 3),) + results[4:], REST, 2, kind="sum"), 3)

    def test_by_the_words(self):
        draw = random.Random(98)
        wrong, right = 0, 0
        for _ in range(1000):
            commands, spread, kind = some_commands(draw, 12), draw.choice(SPREADS), draw.choice(KINDS)
            results = run_commands(commands, spread, 2, kind=kind)
            other = list(results)
            for _ in range(draw.randint(1, 2) if other else 0):
                at = draw.randrange(len(other))
                state = done_all({}, tuple(command[1] for command in commands[:at] if command[0] == "do"))
                state = {key: item for key, item in state.items() if draw.randint(0, 3)}
                items = tuple(state[key] for key in sorted(state))
                refused = ("refused", draw.choice(("kind", "keys", "keys", "shard")))
                near = {"do": ("shard", draw.randint(0, 3)), "cut": ("opened", items), "move": refused, "stop": refused,
                        "level": ("moves", 3), "fold": ("shards", (0,)), "count": ("count", len(items)),
                        "keys": ("keys", tuple(sorted(state)))}
                other[at] = draw.choice((near.get(commands[at][0], ("ok",)),) * 3 + (
                    ("opened", items), ("none",), ("ok",), ("answer", ()), refused, draw.choice(other)))
            if draw.randint(0, 5) == 0:
                other = draw.choice((other[:-1], other + [("ok",)]))
            wanted = fault_by_words(commands, tuple(other), spread, kind)
            self.same(self.unchanged(run_fault, commands, tuple(other), spread, 2, kind=kind), wanted)
            wrong += wanted is not None
            right += wanted is None and tuple(other) != results
        self.assertGreater(wrong, 100)
        self.assertGreater(right, 20)


if __name__ == "__main__":
    unittest.main()
