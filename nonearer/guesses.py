"""Guesses: answers that may lack something, what they can be made into, and how far off they are at most."""

from nonearer.basics import is_int, is_tuple_of
from nonearer.errors import InvalidNumber, InvalidPaper
from nonearer.lots import lots_in, own_keys
from nonearer.pairs import are_pairs, passing_pairs
from nonearer.papers import Paper, answer_reach, first_right_word, looked_by
from nonearer.plain import all_pairs, guess_fault


def is_guess(state, question, value):
    """Returns whether any value is a guess: an answer that may lack pairs."""
    return guess_fault(state, question, value) is None


def terms_of(question, reach, factor):
    """Returns the terms by which words are right for a question, a reach and a factor or `None`."""
    kind, vector, _, sieve = question
    return kind, vector, sieve, reach, factor


def walked(index, state, question, pairs, factor):
    """Returns the paper of a walk on which each lot gets the first word that is right for the pairs known so far.

    These are the first ones, as many as asked for, of some pairs and of those of the items looked at.
    """
    kind, vector, many, sieve = question
    known = tuple(pairs)
    steps = []
    waiting = [index.lot]
    while len(waiting) > 0:
        lot = waiting.pop()
        steps.append(first_right_word(terms_of(question, answer_reach(question, known), factor), lot))
        if steps[-1] == "open":
            waiting.extend(lots_in(lot)[::-1])
            seen = passing_pairs(kind, vector, sieve, [state[key] for key in own_keys(lot)])
            known = known + tuple([pair for pair in seen if pair not in known])
            known = tuple(sorted(known)[:many])
    return Paper(known, tuple(steps))


def bounded(index, state, question, pairs):
    """Returns the right paper that a walk finds from a guess."""
    return walked(index, state, question, pairs, None)


def is_factor(value):
    """Returns whether any value is a factor."""
    if not is_tuple_of(value, 2) or not is_int(value[0]) or not is_int(value[1]):
        return False
    return 1 <= value[1] <= value[0]


def check_factor(factor):
    """Raises an error for any value that is no factor."""
    if not is_factor(factor):
        raise InvalidNumber("factor")


def is_loose(state, question, factor, value):
    """Returns whether any value is a guess beyond which, but for a factor, no other item is nearer."""
    check_factor(factor)
    if not is_guess(state, question, value):
        return False
    top, bottom = factor
    others = [pair for pair in all_pairs(state, question) if pair not in value]
    if len(others) == 0:
        return True
    return len(value) == question[2] and others[0][0] * top >= value[-1][0] * bottom


def is_loose_paper(index, state, question, factor, value):
    """Returns whether any value is a paper that is right for a factor."""
    check_factor(factor)
    many = question[2]
    if not isinstance(value, Paper) or index.kind != question[0]:
        return False
    if not are_pairs(value.answer) or len(value.answer) > many:
        return False
    terms = terms_of(question, answer_reach(question, value.answer), factor)
    try:
        pairs = looked_by(index, state, terms, value.steps)
    except InvalidPaper:
        return False
    return value.answer == pairs[:many]


def loose_paper(index, state, question, factor):
    """Returns a paper that is right for a factor."""
    check_factor(factor)
    return walked(index, state, question, (), factor)
