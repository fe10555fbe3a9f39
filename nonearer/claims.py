"""Claims: tuples that say something of states, questions, indexes and runs, which is checked here."""

from nonearer.basics import has_word, is_lot_of_numbers, is_number, is_tuple_of
from nonearer.changes import is_tidy
from nonearer.distances import is_kind
from nonearer.judge import is_right
from nonearer.lots import is_sound
from nonearer.plain import answer_fault, is_state, union_of
from nonearer.questions import is_deed, is_question
from nonearer.runs import run_fault
from nonearer.scripts import is_command
from nonearer.spread import is_spread
from nonearer.tales import may_be_left
from nonearer.together import is_together


def places_of_item(value):
    """Returns the number of places of any value as an item, 0 if it is none."""
    return len(value[1]) if is_tuple_of(value, 3) and isinstance(value[1], tuple) else 0


def places_of_question(value):
    """Returns the number of places of any value as a question, 0 if it is none."""
    return len(value[1]) if is_tuple_of(value, 4) and isinstance(value[1], tuple) else 0


def items_in_state(value):
    """Returns the list of what are the items in any value, if it is a state."""
    return list(value.values()) if isinstance(value, dict) else []


def items_in_deeds(value):
    """Returns the list of what are the items in any value, if it is a tuple of deeds."""
    deeds = value if isinstance(value, tuple) else ()
    return [deed[1] for deed in deeds if is_tuple_of(deed, 2) and has_word(deed) and deed[0] == "put"]


def common_places(items):
    """Returns the number of places that all of some items have, if all are items of vectors with as many places."""
    return places_of_item(items[0]) if len(items) > 0 else 0


def is_question_about(question, state):
    """Returns whether any two values are a question and a state of vectors with equally many places."""
    places = places_of_question(question)
    return is_question(question, places) and is_state(state, places)


def holds_answer(parts):
    """Returns whether a claim about an answer holds."""
    state, question, answer = parts
    return is_question_about(question, state) and answer_fault(state, question, answer) is None


def holds_sound(parts):
    """Returns whether a claim about a sound index holds."""
    index, state = parts
    return is_state(state, common_places(items_in_state(state))) and is_sound(index, state)


def holds_tidy(parts):
    """Returns whether a claim about a tidy index holds."""
    index, state = parts
    return is_state(state, common_places(items_in_state(state))) and is_tidy(index, state)


def holds_paper(parts):
    """Returns whether a claim about a paper holds."""
    index, state, question, paper = parts
    if not is_question_about(question, state) or not is_sound(index, state):
        return False
    return is_right(index, state, question, paper)


def is_shard_for(question, value):
    """Returns whether any value is a pair of an index of a question's kind and the state for which it is sound."""
    if not is_tuple_of(value, 2) or not is_question_about(question, value[1]):
        return False
    return is_sound(value[0], value[1]) and value[0].kind == question[0]


def holds_together(parts):
    """Returns whether a claim about the answer of several shards holds."""
    shards, question, value = parts
    if not is_question_about(question, {}) or not isinstance(shards, tuple):
        return False
    if not all([is_shard_for(question, shard) for shard in shards]):
        return False
    keys = [key for _, state in shards for key in state]
    return len(set(keys)) == len(keys) and is_together(shards, question, value)


def holds_left(parts):
    """Returns whether a claim about what deeds may leave holds."""
    before, deeds, safe, after = parts
    places = common_places(items_in_state(before) + items_in_deeds(deeds) + items_in_state(after))
    if not is_state(before, places) or not is_state(after, places) or not isinstance(deeds, tuple):
        return False
    if not all([is_deed(deed, places) for deed in deeds]) or not is_lot_of_numbers(safe):
        return False
    return all([number < len(deeds) for number in safe]) and may_be_left(before, deeds, safe, after)


def holds_run(parts):
    """Returns whether a claim about a run holds."""
    commands, results, spread, places, kind = parts
    if not is_number(places) or places < 1 or not is_spread(spread, places) or not is_kind(kind):
        return False
    if not isinstance(commands, tuple) or not all([is_command(command, places) for command in commands]):
        return False
    return run_fault(commands, results, spread, places, kind=kind) is None


CHECKS = {"answer": holds_answer, "sound": holds_sound, "tidy": holds_tidy, "paper": holds_paper,
          "together": holds_together, "left": holds_left, "run": holds_run}
SIZES = {"answer": 4, "sound": 3, "tidy": 3, "paper": 5, "together": 4, "left": 5, "run": 6}


def holds(value):
    """Returns whether any value is a claim, and what it says is so."""
    if not has_word(value) or value[0] not in CHECKS or len(value) != SIZES[value[0]]:
        return False
    check = CHECKS[value[0]]
    return check(value[1:])


def failing(claims):
    """Returns the lot of the numbers of those of a tuple of any values that do not hold."""
    return tuple([number for number, claim in enumerate(claims) if not holds(claim)])


def shown_answer(claim):
    """Returns the state, the question and the answer that a claim shows, `None` if it has no question."""
    word = claim[0]
    if word == "answer":
        return dict(claim[1]), claim[2], claim[3]
    if word == "paper":
        return dict(claim[2]), claim[3], claim[4].answer
    if word == "together":
        return union_of(tuple([state for _, state in claim[1]])), claim[2], claim[3].answer
    return None
