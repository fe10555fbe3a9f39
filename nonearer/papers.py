"""Papers: answers with the steps that show that no other item is nearer."""

from nonearer.errors import InvalidPaper, Refused
from nonearer.lots import all_keys, all_lots, lots_in, own_keys
from nonearer.pairs import passing_pairs
from nonearer.regions import floor_of
from nonearer.summaries import may_pass

CLOSING_WORDS = ("empty", "barred", "far")
MOST_LISTED = 1000


class Paper:
    """An answer, and a step for each lot that was met to find it."""

    def __init__(self, answer, steps):
        self.answer = answer
        self.steps = steps


def answer_reach(question, answer):
    """Returns the last distance of an answer with as many pairs as asked for, `None` for a shorter one."""
    return answer[-1][0] if len(answer) == question[2] else None


def is_far(terms, lot):
    """Returns whether `"far"` is right for a lot. The terms are the kind, the vector, the filter, the reach and the
    factor, `None` for a paper that is right without one."""
    kind, vector, _, reach, factor = terms
    if lot[1][0] == 0 or reach is None:
        return False
    floor = floor_of(kind, lot[0], vector)
    return floor > reach if factor is None else floor * factor[0] >= reach * factor[1]


def is_right_word(terms, lot, value):
    """Returns whether any value is a word that is right for a lot, by terms as in `is_far`."""
    if not isinstance(value, str):
        return False
    if value == "empty":
        return lot[1][0] == 0
    if value == "barred":
        return not may_pass(terms[2], lot[1])
    if value == "far":
        return is_far(terms, lot)
    return value == "open"


def first_right_word(terms, lot):
    """Returns the first word that is right for a lot, by terms as in `is_far`."""
    for word in CLOSING_WORDS:
        if is_right_word(terms, lot, word):
            return word
    return "open"


def closing_word(kind, vector, sieve, reach, lot):
    """Returns the first word that is right for a lot."""
    return first_right_word((kind, vector, sieve, reach, None), lot)


def checked_lots(index, terms, value):
    """Returns the list of the lots that right steps open, by terms as in `is_far`.

    For any value that is none it raises an error with the index of the first wrong step.
    """
    if not isinstance(value, tuple):
        raise InvalidPaper(-1)
    opened = []
    waiting = [index.lot]
    for at, word in enumerate(value):
        if len(waiting) == 0 or not is_right_word(terms, waiting[-1], word):
            raise InvalidPaper(at)
        lot = waiting.pop()
        if word == "open":
            opened.append(lot)
            waiting.extend(lots_in(lot)[::-1])
    if len(waiting) > 0:
        raise InvalidPaper(len(value))
    return opened


def looked_by(index, state, terms, steps):
    """Returns the pairs of all items that pass in the lots that steps open, by terms as in `is_far`."""
    kind, vector, sieve, _, _ = terms
    opened = checked_lots(index, terms, steps)
    items = [state[key] for lot in opened for key in own_keys(lot)]
    return tuple(sorted(passing_pairs(kind, vector, sieve, items)))


def looked(index, state, kind, vector, sieve, reach, steps):
    """Returns the ascending tuple of the pairs of all items that pass in the lots that steps open."""
    return looked_by(index, state, (kind, vector, sieve, reach, None), steps)


def least_steps(index, kind, vector, sieve, reach):
    """Returns the steps that open as few lots as can be."""
    steps = []
    waiting = [index.lot]
    while len(waiting) > 0:
        lot = waiting.pop()
        steps.append(closing_word(kind, vector, sieve, reach, lot))
        if steps[-1] == "open":
            waiting.extend(lots_in(lot)[::-1])
    return tuple(steps)


def paper_of(index, question, answer):
    """Returns the right paper with the least steps for the answer to a question."""
    kind, vector, _, sieve = question
    return Paper(answer, least_steps(index, kind, vector, sieve, answer_reach(question, answer)))


def within_paper(index, state, kind, vector, reach, sieve):
    """Returns the right paper with the least steps for all items that pass within a reach."""
    steps = least_steps(index, kind, vector, sieve, reach)
    pairs = looked(index, state, kind, vector, sieve, reach, steps)
    return Paper(tuple([pair for pair in pairs if pair[0] <= reach]), steps)


def fewer(paper, many):
    """Returns the paper with the first `many` pairs and the same steps."""
    return Paper(paper.answer[:many], paper.steps)


def met_lots(index, steps):
    """Returns the list of the lots that right steps meet, one for each step."""
    met = []
    waiting = [index.lot]
    for word in steps:
        met.append(waiting.pop())
        if word == "open":
            waiting.extend(lots_in(met[-1])[::-1])
    return met


def opened_lots(index, steps):
    """Returns the lots that right steps open, in the sequence in which they are met."""
    return tuple([lot for lot, word in zip(met_lots(index, steps), steps) if word == "open"])


def work_of(index, steps):
    """Returns the numbers of lots met, of lots opened and of items looked at by right steps."""
    opened = opened_lots(index, steps)
    return len(steps), len(opened), sum([len(own_keys(lot)) for lot in opened])


def step_of_key(index, steps, key):
    """Returns the number of the step that closes the lot with a key, or looks at its items, `None` if there is none."""
    for number, lot in enumerate(met_lots(index, steps)):
        is_last = steps[number] != "open" or len(lots_in(lot)) == 0
        if is_last and key in all_keys(lot):
            return number
    return None


def closers(terms, lot):
    """Returns the list of the words, but for `"open"`, that are right for a lot, by terms as in `is_far`."""
    return [word for word in CLOSING_WORDS if is_right_word(terms, lot, word)]


def right_count(index, kind, vector, sieve, reach):
    """Returns how many right steps there are."""
    terms = (kind, vector, sieve, reach, None)
    counts = []
    # Going backwards, each lot finds the counts of its own lots on top, that of the first one last put there.
    for lot in all_lots(index)[::-1]:
        many = 1
        for _ in lots_in(lot):
            many = many * counts.pop()
        counts.append(many + len(closers(terms, lot)))
    return counts[0]


def all_right_steps(index, kind, vector, sieve, reach):
    """Returns the lot of all right steps."""
    if right_count(index, kind, vector, sieve, reach) > MOST_LISTED:
        raise Refused("many")
    terms = (kind, vector, sieve, reach, None)
    lists = []
    for lot in all_lots(index)[::-1]:
        opening = [("open",)]
        for _ in lots_in(lot):
            behind = lists.pop()
            opening = [steps + more for steps in opening for more in behind]
        lists.append([(word,) for word in closers(terms, lot)] + opening)
    return tuple(sorted(lists[0]))
