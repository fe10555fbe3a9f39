"""Runs: commands that are done on a store one after another, and whether their results can be right."""

from nonearer.basics import has_word, is_lot_of_numbers, is_number, is_rising, is_same, is_tuple_of
from nonearer.cuts import cut
from nonearer.disk import Disk
from nonearer.errors import Refused
from nonearer.items import is_item
from nonearer.plain import done, nearest, state_of
from nonearer.printer import show_answer
from nonearer.questions import deed_key
from nonearer.scripts import read_script
from nonearer.spread import shard_count
from nonearer.store import Store
from nonearer.tales import may_be_left

CHOICES = 24
ALL_STEPS = 7


def items_of(state):
    """Returns the tuple of all items of a state, ascending by key."""
    return tuple([state[key] for key in sorted(state)])


def move_parts(command):
    """Returns how many steps are done of the move of a command, its shards and its keys."""
    return command[1:] if command[0] == "stop" else (ALL_STEPS,) + command[1:]


class Run:
    """A store with its disks, and what it is opened anew with."""

    def __init__(self, spread, places, kind, form, room):
        self.spread = spread
        self.places = places
        self.kind = kind
        self.form = form
        self.room = room
        self._enter(tuple([Disk({}) for _ in range(shard_count(spread))]))

    def _enter(self, disks):
        """Opens the store on some disks."""
        self._disks = disks
        self._store = Store(disks, self.spread, self.places, kind=self.kind, form=self.form, room=self.room)

    def _entered(self, disks):
        """Opens the store on some disks, and returns the result that tells its items."""
        self._enter(disks)
        return "opened", items_of(self._store.all_items())

    def _deed_result(self, deed):
        shard = self._store.put(deed[1]) if deed[0] == "put" else self._store.take(deed[1])
        return ("none",) if shard is None else ("shard", shard)

    def _question_result(self, question):
        try:
            return "answer", self._store.ask(question).answer
        except Refused as refused:
            return "refused", refused.word

    def _cut_result(self, numbers):
        choices = [(number,) * CHOICES for number in numbers]
        left = [cut(disk, choices[shard] if shard < len(choices) else ()) for shard, disk in enumerate(self._disks)]
        return self._entered(tuple(left))

    def _move_result(self, steps, source, target, keys):
        try:
            self._store.move(source, target, keys, stop=steps)
        except Refused as refused:
            return "refused", refused.word
        return ("ok",) if steps == ALL_STEPS else self._entered(self._disks)

    def _thing_result(self, word, thing):
        """Returns the result of a command of a word and one thing."""
        if word == "do":
            return self._deed_result(thing)
        if word == "ask":
            return self._question_result(thing)
        if word == "cut":
            return self._cut_result(thing)
        return "shards", self._store.fold(thing)

    def result(self, command):
        """Does a command and returns its result."""
        word = command[0]
        if word in ("move", "stop"):
            steps, source, target, keys = move_parts(command)
            return self._move_result(steps, source, target, keys)
        if word == "level":
            return "moves", len(self._store.level())
        if word == "count":
            return "count", len(self._store.all_items())
        if word == "keys":
            return "keys", tuple(sorted(self._store.all_items()))
        if word == "sync":
            self._store.sync()
            return ("ok",)
        return self._thing_result(word, command[1])


def run_commands(commands, spread, places, *, kind="square", form="boxes", room=8):
    """Returns the tuple of the results of some commands, done one after another."""
    run = Run(spread, places, kind, form, room)
    return tuple([run.result(command) for command in commands])


def show_result(result):
    """Returns the line of a result."""
    word, parts = result[0], result[1:]
    if word == "answer":
        return show_answer(parts[0])
    if word == "opened":
        parts = [item[0] for item in parts[0]]
    elif word in ("keys", "shards"):
        parts = parts[0]
    return " ".join([word] + [str(part) for part in parts])


def run_script(text, spread, places, *, kind="square", form="boxes", room=8):
    """Returns the tuple of the lines of the results of a script."""
    results = run_commands(read_script(places, text), spread, places, kind=kind, form=form, room=room)
    return tuple([show_result(result) for result in results])


class RunJudge:
    """What the results of a run have told so far."""

    def __init__(self, spread, places, kind):
        self.spread = spread
        self.places = places
        self.kind = kind
        self._note_opening({})

    def _note_opening(self, state):
        """Takes note of the state that an opening tells."""
        self._before = state
        self._state = state
        self._deeds = []
        self._safe = 0

    def _is_shard_result(self, value):
        """Returns whether any value tells a shard of the store."""
        if not is_tuple_of(value, 2) or not has_word(value):
            return False
        return value[0] == "shard" and is_number(value[1]) and value[1] < shard_count(self.spread)

    def _is_right_deed(self, deed, value):
        if deed[0] == "take" and deed_key(deed) not in self._state:
            return is_same(value, ("none",))
        return self._is_shard_result(value)

    def _is_right_answer(self, question, value):
        if question[0] != self.kind:
            return is_same(value, ("refused", "kind"))
        return is_same(value, ("answer", nearest(self._state, question)))

    def _is_right_fold(self, value):
        if not is_tuple_of(value, 2) or not has_word(value) or value[0] != "shards":
            return False
        return is_lot_of_numbers(value[1]) and all([shard < shard_count(self.spread) for shard in value[1]])

    def _is_right_move(self, steps, source, target, keys, value):
        if max(source, target) >= shard_count(self.spread) or source == target:
            return is_same(value, ("refused", "shard"))
        if is_same(value, ("refused", "keys")):
            return True
        if not all([key in self._state for key in keys]):
            return False
        return is_same(value, ("ok",) if steps == ALL_STEPS else ("opened", items_of(self._state)))

    def _is_right_cut(self, value):
        if not is_tuple_of(value, 2) or not has_word(value) or value[0] != "opened":
            return False
        items = value[1]
        if not isinstance(items, tuple) or not all([is_item(item, self.places) for item in items]):
            return False
        safe = tuple(range(self._safe))
        is_ascending = is_rising([item[0] for item in items])
        return is_ascending and may_be_left(self._before, tuple(self._deeds), safe, state_of(items))

    def _is_right_count(self, word, value):
        """Returns whether any value is right for a command that has no things."""
        if word == "sync":
            return is_same(value, ("ok",))
        if word == "count":
            return is_same(value, ("count", len(self._state)))
        if word == "keys":
            return is_same(value, ("keys", tuple(sorted(self._state))))
        return is_tuple_of(value, 2) and has_word(value) and value[0] == "moves" and is_number(value[1])

    def is_right(self, command, value):
        """Returns whether any value is a right result of a command."""
        word = command[0]
        if word in ("move", "stop"):
            steps, source, target, keys = move_parts(command)
            return self._is_right_move(steps, source, target, keys, value)
        if word == "do":
            return self._is_right_deed(command[1], value)
        if word == "ask":
            return self._is_right_answer(command[1], value)
        if word == "cut":
            return self._is_right_cut(value)
        if word == "fold":
            return self._is_right_fold(value)
        return self._is_right_count(word, value)

    def note(self, command, result):
        """Takes note of a command and its right result."""
        if command[0] == "do":
            self._deeds.append(command[1])
            self._state = done(self._state, command[1])
        elif command[0] == "sync":
            self._safe = len(self._deeds)
        elif result[0] == "opened":
            self._note_opening(state_of(result[1]))


def run_fault(commands, results, spread, places, *, kind="square"):
    """Returns `None` if any value is a tuple of right results of commands, otherwise the number of the first fault."""
    if not isinstance(results, tuple):
        return 0
    judge = RunJudge(spread, places, kind)
    for number, command in enumerate(commands):
        if number == len(results) or not judge.is_right(command, results[number]):
            return number
        judge.note(command, results[number])
    return len(commands) if len(results) > len(commands) else None
