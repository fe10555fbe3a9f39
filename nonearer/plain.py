"""States, deeds and answers, found by looking at all items."""

from nonearer.basics import is_number
from nonearer.errors import Refused
from nonearer.filters import passes
from nonearer.items import is_item
from nonearer.pairs import is_pair, pair_of, passing_pairs
from nonearer.questions import deed_key


def is_state(value, places):
    """Returns whether any value is a state of vectors with so many places."""
    if not isinstance(value, dict):
        return False
    return all([is_number(key) and is_item(item, places) and item[0] == key for key, item in value.items()])


def done_all(state, deeds):
    """Returns the state that deeds leave, one after another."""
    left = dict(state)
    for deed in deeds:
        key = deed_key(deed)
        if deed[0] == "put":
            left[key] = deed[1]
        elif key in left:
            del left[key]
    return left


def done(state, deed):
    """Returns the state that a deed leaves."""
    return done_all(state, (deed,))


def state_of(items):
    """Returns the state that puts of some items leave, one after another."""
    return {item[0]: item for item in items}


def last_deeds(deeds):
    """Returns the last deed of each key, ascending by key."""
    last = {deed_key(deed): deed for deed in deeds}
    return tuple([last[key] for key in sorted(last)])


def deeds_between(one, other):
    """Returns the fewest deeds that make one state of another one, ascending by key."""
    takes = [(key, ("take", key)) for key in one if key not in other]
    puts = [(key, ("put", other[key])) for key in other if key not in one or one[key] != other[key]]
    return tuple([deed for _, deed in sorted(takes + puts)])


def passing_keys(state, sieve):
    """Returns the lot of the keys of the items that pass a filter."""
    return tuple([key for key in sorted(state) if passes(sieve, state[key])])


def all_pairs(state, question):
    """Returns the ascending list of the pairs of all items that pass the filter of a question."""
    kind, vector, _, sieve = question
    return sorted(passing_pairs(kind, vector, sieve, list(state.values())))


def nearest(state, question):
    """Returns the answer to a question."""
    return tuple(all_pairs(state, question)[:question[2]])


def within(state, kind, vector, reach, sieve):
    """Returns the ascending tuple of the pairs of all items that pass a filter and lie within a reach."""
    pairs = sorted(passing_pairs(kind, vector, sieve, list(state.values())))
    return tuple([pair for pair in pairs if pair[0] <= reach])


def count_within(state, kind, vector, reach, sieve):
    """Returns how many items pass a filter and lie within a reach."""
    return len(within(state, kind, vector, reach, sieve))


def reach_of(state, question):
    """Returns the last distance of the answer, `None` if it has fewer pairs than asked for."""
    answer = nearest(state, question)
    return answer[-1][0] if len(answer) == question[2] else None


def rank_of(state, question, key):
    """Returns how many items that pass are before that with a key, `None` if it does not pass or there is none."""
    kind, vector, _, sieve = question
    if key not in state or not passes(sieve, state[key]):
        return None
    return all_pairs(state, question).index(pair_of(kind, vector, state[key]))


def union_of(states):
    """Returns the state of all items of some states without a common key."""
    union = {}
    for state in states:
        for key, item in state.items():
            if key in union:
                raise Refused("key")
            union[key] = item
    return union


def first_of_all(answers, many):
    """Returns the first `many` of all pairs of some answers."""
    return tuple(sorted([pair for answer in answers for pair in answer])[:many])


def is_right_pair(state, question, pair):
    """Returns whether a pair is that of an item that passes."""
    kind, vector, _, sieve = question
    away, key = pair
    return key in state and passes(sieve, state[key]) and pair_of(kind, vector, state[key]) == (away, key)


def first_index(truths):
    """Returns the index of the first `False` in a list, `None` if there is none."""
    return truths.index(False) if False in truths else None


def guess_fault(state, question, value):
    """Returns the first fault, but for lacking pairs, that any value has as an answer, `None` if it has none."""
    if not isinstance(value, tuple):
        return "form", -1
    at = first_index([is_pair(pair) for pair in value])
    if at is not None:
        return "form", at
    at = first_index([is_right_pair(state, question, pair) for pair in value])
    if at is not None:
        return "pair", at
    at = first_index([before < pair for before, pair in zip(value, value[1:])])
    if at is not None:
        return "order", at + 1
    return ("many", len(value)) if len(value) > question[2] else None


def answer_fault(state, question, value):
    """Returns `None` if any value is the answer to a question, otherwise its first fault."""
    fault = guess_fault(state, question, value)
    if fault is not None:
        return fault
    missing = [pair for pair in nearest(state, question) if pair not in value]
    return ("missing", missing[0][1]) if len(missing) > 0 else None
