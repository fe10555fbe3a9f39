"""The judge: whether papers are right, and what they show of single items."""

from nonearer.errors import InvalidPaper
from nonearer.filters import passes
from nonearer.pairs import are_pairs
from nonearer.papers import Paper, answer_reach, looked, paper_of, step_of_key


def shape_fault(index, kind, value):
    """Returns the fault of any value that is no paper by this kind with pairs as its answer, `None` if it is one."""
    if not isinstance(value, Paper) or index.kind != kind:
        return "kind", 0
    return None if are_pairs(value.answer) else ("answer", 0)


def first_fault(index, state, question, value):
    """Returns `None` if any value is a right paper for a question, otherwise its first fault."""
    kind, vector, many, sieve = question
    fault = shape_fault(index, kind, value)
    if fault is not None:
        return fault
    if len(value.answer) > many:
        return "answer", 0
    try:
        pairs = looked(index, state, kind, vector, sieve, answer_reach(question, value.answer), value.steps)
    except InvalidPaper as wrong:
        return "step", wrong.at
    return None if value.answer == pairs[:many] else ("answer", 1)


def is_right(index, state, question, value):
    """Returns whether any value is a right paper for a question."""
    return first_fault(index, state, question, value) is None


def within_fault(index, state, kind, vector, reach, sieve, value):
    """Returns `None` if any value is a right paper for all within a reach, otherwise its first fault."""
    fault = shape_fault(index, kind, value)
    if fault is not None:
        return fault
    try:
        pairs = looked(index, state, kind, vector, sieve, reach, value.steps)
    except InvalidPaper as wrong:
        return "step", wrong.at
    near = tuple([pair for pair in pairs if pair[0] <= reach])
    return None if value.answer == near else ("answer", 1)


def is_within_paper(index, state, kind, vector, reach, sieve, value):
    """Returns whether any value is a right paper for all within a reach."""
    return within_fault(index, state, kind, vector, reach, sieve, value) is None


def shorter(index, question, paper):
    """Returns the right paper with the least steps for the answer of a right one."""
    return paper_of(index, question, paper.answer)


def tied(index, state, question, paper):
    """Returns the pairs of the items that are just as far as the last one of a full answer and are not in it."""
    kind, vector, _, sieve = question
    reach = answer_reach(question, paper.answer)
    if reach is None:
        return ()
    pairs = looked(index, state, kind, vector, sieve, reach, paper.steps)
    return tuple([pair for pair in pairs if pair[0] == reach and pair not in paper.answer])


def why_not(index, state, question, paper, key):
    """Returns why the item with a key is not in the answer of a right paper, or where it is there."""
    if key not in state:
        return "missing", 0
    keys = [pair[1] for pair in paper.answer]
    if key in keys:
        return "answer", keys.index(key)
    word = "beyond" if passes(question[3], state[key]) else "barred"
    return word, step_of_key(index, paper.steps, key)
