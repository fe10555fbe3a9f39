"""Pairs of a distance and a key, which answers are made of."""

from nonearer.basics import is_number, is_rising, is_tuple_of
from nonearer.distances import distance
from nonearer.filters import passes


def is_pair(value):
    """Returns whether any value is a tuple of two numbers."""
    return is_tuple_of(value, 2) and is_number(value[0]) and is_number(value[1])


def are_pairs(value):
    """Returns whether any value is an ascending tuple of pairs of numbers, without duplicates."""
    return isinstance(value, tuple) and all([is_pair(pair) for pair in value]) and is_rising(value)


def pair_of(kind, vector, item):
    """Returns the pair of an item: its distance from a vector, and its key."""
    return distance(kind, vector, item[1]), item[0]


def passing_pairs(kind, vector, sieve, items):
    """Returns the list of the pairs of those of some items that pass a filter, in the sequence of the items."""
    return [pair_of(kind, vector, item) for item in items if passes(sieve, item)]
