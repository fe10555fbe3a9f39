"""The four kinds of distances, and what the distances from a centre say of others."""

from math import isqrt

from nonearer.vectors import at_places, differences

KINDS = ("square", "sum", "most", "unlike")


def is_kind(value):
    """Returns whether any value is a kind of distance."""
    return isinstance(value, str) and value in KINDS


def part_of(kind, difference):
    """Returns what a difference at one place counts."""
    if kind == "square":
        return difference * difference
    if kind == "unlike":
        return 0 if difference == 0 else 1
    return abs(difference)


def joined_parts(kind, parts):
    """Returns what a tuple or list of numbers counts together."""
    if kind == "most":
        return max(parts, default=0)
    return sum(parts)


def distance(kind, one, other):
    """Returns the distance of two vectors."""
    return joined_parts(kind, [part_of(kind, difference) for difference in differences(one, other)])


def distance_at(kind, one, other, places):
    """Returns the distance of two vectors at a tuple of places alone."""
    return distance(kind, at_places(one, places), at_places(other, places))


def is_within(kind, one, other, reach):
    """Returns whether the distance of two vectors is at most an integer."""
    return distance(kind, one, other) <= reach


def distances_by_index(kind, target, vectors):
    """Returns the list of the pairs of a vector's distance from a target and its index."""
    return [(distance(kind, target, vector), at) for at, vector in enumerate(vectors)]


def place_by(kind, target, vectors):
    """Returns the indices of vectors in the order of their distances from a target."""
    return tuple([pair[1] for pair in sorted(distances_by_index(kind, target, vectors))])


def first_nearest(kind, target, vectors):
    """Returns the least distance of one or more vectors from a target, and the first index that has it."""
    return min(distances_by_index(kind, target, vectors))


def first_farthest(kind, target, vectors):
    """Returns the greatest distance of one or more vectors from a target, and the first index that has it."""
    return max(distances_by_index(kind, target, vectors), key=lambda pair: (pair[0], -pair[1]))


def radius_of(kind, centre, vectors):
    """Returns the greatest distance of vectors from a centre, 0 if there are none."""
    return max([distance(kind, centre, vector) for vector in vectors], default=0)


def root_of_both(one, other):
    """Returns the double of the product of the roots of two numbers, rounded down."""
    return isqrt(4 * one * other)


def gap_of(kind, one, other):
    """Returns the least distance that two vectors can have that are so far from a third one."""
    if kind == "square":
        return one + other - root_of_both(one, other)
    return abs(one - other)


def least_beyond(kind, from_centre, radius):
    """Returns a number that no distance from a vector within a radius of a centre is below."""
    if from_centre <= radius:
        return 0
    return gap_of(kind, from_centre, radius)


def most_beyond(kind, from_centre, radius):
    """Returns a number that no distance from a vector within a radius of a centre is above."""
    if kind == "square":
        return from_centre + radius + root_of_both(from_centre, radius)
    return from_centre + radius


def reaches(kind, from_centre, radius, reach):
    """Returns whether a vector within a radius of a centre can lie within a reach."""
    beyond = from_centre - radius - reach
    if kind != "square" or beyond <= 0:
        return beyond <= 0
    # The roots are compared by their squares, as integers are exact and roots are not.
    return beyond * beyond <= 4 * radius * reach
