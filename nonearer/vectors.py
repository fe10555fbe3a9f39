"""Vectors: tuples of integers, one and several of them."""

from nonearer.basics import is_int, is_tuple_of
from nonearer.errors import InvalidVector


def is_vector(value, many):
    """Returns whether any value is a vector with so many places."""
    return is_tuple_of(value, many) and all([is_int(integer) for integer in value])


def check_vector(value, many):
    """Raises an error for any value that is no vector with so many places."""
    if not is_tuple_of(value, many):
        raise InvalidVector(-1)
    for at, integer in enumerate(value):
        if not is_int(integer):
            raise InvalidVector(at)


def differences(one, other):
    """Returns `one` less `other`, place by place."""
    return tuple([first - second for first, second in zip(one, other)])


def moved_vector(vector, step):
    """Returns the sum of two vectors."""
    return tuple([first + second for first, second in zip(vector, step)])


def at_places(vector, places):
    """Returns the integers of a vector at a tuple of places."""
    return tuple([vector[place] for place in places])


def bounds_of(vectors):
    """Returns the vectors of the least and of the greatest integers of one or more vectors."""
    columns = list(zip(*vectors))
    return tuple([min(column) for column in columns]), tuple([max(column) for column in columns])


def middle_of(vectors):
    """Returns the vector of the means of one or more vectors, rounded down."""
    return tuple([sum(column) // len(vectors) for column in zip(*vectors)])


def widest_place(vectors):
    """Returns the first place at which the bounds of one or more vectors differ most."""
    lows, highs = bounds_of(vectors)
    widths = differences(highs, lows)
    return widths.index(max(widths))


def halves_of(vectors):
    """Returns the indices of one or more vectors in two tuples, by their integers at the widest place."""
    place = widest_place(vectors)
    ordered = sorted([(vector[place], at) for at, vector in enumerate(vectors)])
    indices = tuple([pair[1] for pair in ordered])
    middle = (len(indices) + 1) // 2
    return indices[:middle], indices[middle:]
