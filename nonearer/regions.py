"""Balls, boxes and cells: where vectors lie, and how near and how far they can be."""

from nonearer.basics import has_word, is_int, is_number
from nonearer.distances import distance, first_nearest, gap_of, joined_parts, least_beyond, most_beyond
from nonearer.distances import part_of, radius_of
from nonearer.errors import Refused
from nonearer.vectors import bounds_of, is_vector, middle_of


def are_lows_and_highs(lows, highs, places):
    """Returns whether any two values are vectors with so many places, the first nowhere above the second."""
    if not is_vector(lows, places) or not is_vector(highs, places):
        return False
    return all([low <= high for low, high in zip(lows, highs)])


def is_region(value, places):
    """Returns whether any value is a ball, box or cell of vectors with so many places."""
    if not has_word(value):
        return False
    word, rest = value[0], value[1:]
    if word == "ball" and len(rest) == 2:
        return is_vector(rest[0], places) and is_number(rest[1])
    if word == "box" and len(rest) == 2:
        return are_lows_and_highs(rest[0], rest[1], places)
    if word == "cell" and len(rest) == 3:
        centre, least, greatest = rest
        return is_vector(centre, places) and is_number(least) and is_int(greatest) and least <= greatest
    return False


def holds_vector(kind, region, vector):
    """Returns whether a region holds a vector."""
    if region[0] == "box":
        return all([low <= integer <= high for low, integer, high in zip(region[1], vector, region[2])])
    away = distance(kind, region[1], vector)
    if region[0] == "ball":
        return away <= region[2]
    return region[2] <= away <= region[3]


def ball_of(kind, centre, vectors):
    """Returns the least ball around a centre that holds one or more vectors."""
    return "ball", centre, radius_of(kind, centre, vectors)


def box_of(vectors):
    """Returns the least box that holds one or more vectors."""
    lows, highs = bounds_of(vectors)
    return "box", lows, highs


def cell_of(kind, centre, vectors):
    """Returns the least cell around a centre that holds one or more vectors."""
    return "cell", centre, first_nearest(kind, centre, vectors)[0], radius_of(kind, centre, vectors)


def is_form(value):
    """Returns whether any value is a form of regions."""
    return isinstance(value, str) and value in ("balls", "cells", "boxes")


def region_of(kind, form, vectors):
    """Returns the region of a form that holds one or more vectors."""
    if not is_form(form):
        raise Refused("form")
    if form == "balls":
        return ball_of(kind, middle_of(vectors), vectors)
    if form == "cells":
        return cell_of(kind, middle_of(vectors), vectors)
    return box_of(vectors)


def nearest_difference(low, high, integer):
    """Returns the size of the difference from an integer to the nearest one from `low` to `high`."""
    return max(low - integer, integer - high, 0)


def farthest_difference(low, high, integer):
    """Returns the size of the difference from an integer to the farthest one from `low` to `high`."""
    return max(integer - low, high - integer)


def floor_of(kind, region, vector):
    """Returns a number that the distance of no vector in a region from a vector is below."""
    if region[0] == "box":
        steps = [nearest_difference(low, high, integer) for low, high, integer in zip(region[1], region[2], vector)]
        return joined_parts(kind, [part_of(kind, step) for step in steps])
    away = distance(kind, region[1], vector)
    if region[0] == "cell" and away < region[2]:
        return gap_of(kind, region[2], away)
    return least_beyond(kind, away, region[-1])


def ceiling_of(kind, region, vector):
    """Returns a number that the distance of no vector in a region from a vector is above."""
    if region[0] == "box":
        steps = [farthest_difference(low, high, integer) for low, high, integer in zip(region[1], region[2], vector)]
        return joined_parts(kind, [part_of(kind, step) for step in steps])
    most = most_beyond(kind, distance(kind, region[1], vector), region[-1])
    return min(most, len(vector)) if kind == "unlike" else most
