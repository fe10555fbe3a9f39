"""Regions in regard to one another: grown, joined, one inside another, and apart."""

from math import isqrt

from nonearer.distances import distance, gap_of, joined_parts, least_beyond, part_of
from nonearer.errors import Refused
from nonearer.regions import ceiling_of, floor_of
from nonearer.vectors import bounds_of


def grown(kind, region, vector):
    """Returns the least region of the same form and centre in which a region and a vector lie."""
    if region[0] == "box":
        return ("box",) + bounds_of((region[1], region[2], vector))
    away = distance(kind, region[1], vector)
    if region[0] == "ball":
        return "ball", region[1], max(region[2], away)
    return "cell", region[1], min(region[2], away), max(region[3], away)


def joined_region(kind, one, other):
    """Returns a region, with the centre of `one`, that holds all that one of two regions of one form holds."""
    if one[0] != other[0]:
        raise Refused("form")
    if one[0] == "box":
        return ("box",) + bounds_of((one[1], one[2], other[1], other[2]))
    centre = one[1]
    greatest = max(one[-1], ceiling_of(kind, other, centre))
    if one[0] == "ball":
        return "ball", centre, greatest
    return "cell", centre, min(one[2], floor_of(kind, other, centre)), greatest


def most_difference(kind, radius):
    """Returns the greatest difference at one place of vectors within a radius, `None` if there is no such one."""
    if kind == "square":
        return isqrt(radius)
    if kind == "unlike" and radius > 0:
        return None
    return radius


def box_around(kind, region):
    """Returns a box that holds all that a region holds, `None` if no box does."""
    if region[0] == "box":
        return region
    most = most_difference(kind, region[-1])
    if most is None:
        return None
    centre = region[1]
    return "box", tuple([integer - most for integer in centre]), tuple([integer + most for integer in centre])


def is_box_inside(inner, outer):
    """Returns whether a box lies in a box."""
    return bounds_of((inner[1], inner[2], outer[1], outer[2])) == (outer[1], outer[2])


def is_inside(kind, inner, outer):
    """Returns whether it is sure that a region holds all that another one, the inner one, holds."""
    if outer[0] == "box":
        box = box_around(kind, inner)
        return box is not None and is_box_inside(box, outer)
    if ceiling_of(kind, inner, outer[1]) > outer[-1]:
        return False
    return outer[0] == "ball" or floor_of(kind, inner, outer[1]) >= outer[2]


def floor_between_boxes(kind, one, other):
    """Returns the least distance of two vectors that two boxes hold."""
    rows = list(zip(one[1], one[2], other[1], other[2]))
    steps = [max(low - other_high, other_low - high, 0) for low, high, other_low, other_high in rows]
    return joined_parts(kind, [part_of(kind, step) for step in steps])


def floor_between(kind, one, other):
    """Returns a number that the distance of no two vectors is below that two regions hold."""
    if other[0] == "box":
        if one[0] == "box":
            return floor_between_boxes(kind, one, other)
        return floor_between(kind, other, one)
    near, far = floor_of(kind, one, other[1]), ceiling_of(kind, one, other[1])
    # Of a region that holds nothing, `near` may be above `far`: so what is beyond comes first.
    if other[0] == "cell" and near <= other[3] and far < other[2]:
        return gap_of(kind, other[2], far)
    return least_beyond(kind, near, other[-1])


def reach_word(kind, region, vector, reach):
    """Returns whether what a region holds is `"in"` a reach of a vector, `"out"` of it, or `"some"` of it may be."""
    if floor_of(kind, region, vector) > reach:
        return "out"
    return "in" if ceiling_of(kind, region, vector) <= reach else "some"
