"""Scans: answers found by looking only at items whose codes are near."""

from nonearer.basics import is_lot_of_numbers
from nonearer.codes import code_floor
from nonearer.filters import passes
from nonearer.pairs import are_pairs, pair_of
from nonearer.plain import passing_keys


class Scan:
    """An answer, and the lot of the keys of the items that were chosen to be looked at."""

    def __init__(self, answer, chosen):
        self.answer = answer
        self.chosen = chosen


def floor_pairs(coder, codes, state, question):
    """Returns the ascending tuple of the pairs of the floor of its code and the key of all items that pass."""
    kind, vector, _, sieve = question
    return tuple(sorted([(code_floor(kind, coder, codes[key], vector), key) for key in passing_keys(state, sieve)]))


def first_chosen(state, question, keys):
    """Returns the first pairs, as many as asked for, of the items with some keys."""
    kind, vector, many, _ = question
    return tuple(sorted([pair_of(kind, vector, state[key]) for key in keys])[:many])


def is_scan(coder, codes, state, question, value):
    """Returns whether any value is a right scan."""
    if not isinstance(value, Scan) or not is_lot_of_numbers(value.chosen) or not are_pairs(value.answer):
        return False
    chosen = value.chosen
    if not all([key in state and passes(question[3], state[key]) for key in chosen]):
        return False
    if value.answer != first_chosen(state, question, chosen):
        return False
    others = [pair for pair in floor_pairs(coder, codes, state, question) if pair[1] not in chosen]
    # An answer that is not full has no last pair that others could be above.
    return len(others) == 0 or (len(value.answer) == question[2] and others[0] > value.answer[-1])


def scan(coder, codes, state, question):
    """Returns the right scan with the fewest keys."""
    kind, vector, many, _ = question
    first = []
    chosen = []
    for pair in floor_pairs(coder, codes, state, question):
        if len(first) == many and pair > first[-1]:
            break
        chosen.append(pair[1])
        first = sorted(first + [pair_of(kind, vector, state[pair[1]])])[:many]
    return Scan(tuple(first), tuple(sorted(chosen)))
