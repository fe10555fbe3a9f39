"""Codes: the numbers of the intervals in which the integers of vectors lie."""

from nonearer.basics import is_int, is_number, is_tuple_of, lot_of
from nonearer.errors import InvalidNumber, Refused
from nonearer.regions import ceiling_of, floor_of


def is_interval(value):
    """Returns whether any value is a pair of integers, the first at most the second."""
    return is_tuple_of(value, 2) and is_int(value[0]) and is_int(value[1]) and value[0] <= value[1]


def is_ladder(value):
    """Returns whether any value is an ascending tuple of one or more intervals without common integers."""
    if not isinstance(value, tuple) or len(value) == 0 or not all([is_interval(part) for part in value]):
        return False
    return all([lower[1] < upper[0] for lower, upper in zip(value, value[1:])])


def is_coder(value, places):
    """Returns whether any value is a tuple of so many ladders."""
    return is_tuple_of(value, places) and all([is_ladder(ladder) for ladder in value])


def ladder_of(integers, many):
    """Returns the ladder of at most `many` intervals in which one or more integers lie."""
    different = lot_of(integers)
    count = min(many, len(different))
    groups = [[] for _ in range(count)]
    for number, integer in enumerate(different):
        groups[number * count // len(different)].append(integer)
    return tuple([(group[0], group[-1]) for group in groups])


def coder_of(vectors, many):
    """Returns the coder with the ladders of vectors, place by place."""
    if not is_number(many) or many < 1:
        raise InvalidNumber("many")
    if len(vectors) == 0:
        raise Refused("none")
    return tuple([ladder_of(column, many) for column in zip(*vectors)])


def step_of(ladder, integer):
    """Returns the number of the interval that holds an integer, `None` if none does."""
    for number, (low, high) in enumerate(ladder):
        if low <= integer <= high:
            return number
    return None


def code_of(coder, vector):
    """Returns the code of a vector, `None` if an integer is in no interval."""
    code = tuple([step_of(ladder, integer) for ladder, integer in zip(coder, vector)])
    return None if None in code else code


def code_box(coder, code):
    """Returns the box of all vectors with a code."""
    intervals = [ladder[number] for ladder, number in zip(coder, code)]
    return "box", tuple([low for low, _ in intervals]), tuple([high for _, high in intervals])


def code_floor(kind, coder, code, vector):
    """Returns the least distance from a vector to vectors with a code."""
    return floor_of(kind, code_box(coder, code), vector)


def code_ceiling(kind, coder, code, vector):
    """Returns the greatest distance from a vector to vectors with a code."""
    return ceiling_of(kind, code_box(coder, code), vector)


def coded(coder, state):
    """Returns a dict with the code of each key's vector."""
    codes = {key: code_of(coder, state[key][1]) for key in state}
    if None in list(codes.values()):
        raise Refused("outside")
    return codes


def widened_ladder(ladder, integer):
    """Returns the ladder in which the interval nearest to an integer reaches to it."""
    away = [(max(low - integer, integer - high, 0), number) for number, (low, high) in enumerate(ladder)]
    number = min(away)[1]
    low, high = ladder[number]
    return ladder[:number] + ((min(low, integer), max(high, integer)),) + ladder[number + 1:]


def widened(coder, vector):
    """Returns the coder in which the intervals nearest to a vector's integers reach to these."""
    return tuple([widened_ladder(ladder, integer) for ladder, integer in zip(coder, vector)])
