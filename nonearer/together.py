"""Answers of several shards together, with the steps that show in each of them that no other item is nearer."""

from nonearer.basics import is_tuple_of
from nonearer.errors import InvalidPaper
from nonearer.pairs import are_pairs
from nonearer.papers import answer_reach, least_steps, looked
from nonearer.plain import first_of_all
from nonearer.search import found


class Together:
    """The answer of several shards, and a tuple with the steps for each of them."""

    def __init__(self, answer, steps):
        self.answer = answer
        self.steps = steps


def together(shards, question):
    """Returns the answer to a question in several shards, with steps that open no lot that could be closed."""
    kind, vector, many, sieve = question
    answer = first_of_all(tuple([found(index, state, question)[0] for index, state in shards]), many)
    reach = answer_reach(question, answer)
    return Together(answer, tuple([least_steps(index, kind, vector, sieve, reach) for index, _ in shards]))


def is_together(shards, question, value):
    """Returns whether any value is a right answer of several shards to a question."""
    kind, vector, many, sieve = question
    if not isinstance(value, Together) or not is_tuple_of(value.steps, len(shards)):
        return False
    if not are_pairs(value.answer):
        return False
    reach = answer_reach(question, value.answer)
    try:
        pairs = [looked(shard[0], shard[1], kind, vector, sieve, reach, steps)
                 for shard, steps in zip(shards, value.steps)]
    except InvalidPaper:
        return False
    return value.answer == first_of_all(tuple(pairs), many)


def shards_asked(value):
    """Returns the lot of the shards of which a right answer of several shards opens a lot."""
    return tuple([shard for shard, steps in enumerate(value.steps) if steps[0] == "open"])
