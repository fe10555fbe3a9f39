"""Spreads: which shard is the home of an item, and what moves bring all items home."""

from nonearer.basics import has_word, is_int, is_lot_of_numbers
from nonearer.distances import first_nearest, is_kind
from nonearer.errors import Refused
from nonearer.vectors import is_vector


def are_vectors(value, places):
    """Returns whether any value is a tuple of one or more vectors with so many places."""
    return isinstance(value, tuple) and len(value) > 0 and all([is_vector(vector, places) for vector in value])


def is_spread(value, places):
    """Returns whether any value is a spread of items with so many places."""
    if not has_word(value):
        return False
    word, rest = value[0], value[1:]
    if word == "keys" and len(rest) == 1:
        return is_lot_of_numbers(rest[0])
    if word == "rest" and len(rest) == 1:
        return is_int(rest[0]) and rest[0] >= 1
    if word == "centres" and len(rest) == 2:
        return is_kind(rest[0]) and are_vectors(rest[1], places)
    return False


def check_spread(value, places):
    """Raises an error for any value that is no spread of items with so many places."""
    if not is_spread(value, places):
        raise Refused("spread")


def shard_count(spread):
    """Returns the number of shards of a spread."""
    if spread[0] == "keys":
        return len(spread[1]) + 1
    if spread[0] == "rest":
        return spread[1]
    return len(spread[2])


def home_of(spread, item):
    """Returns the shard that is the home of an item."""
    key, vector, _ = item
    if spread[0] == "keys":
        return len([mark for mark in spread[1] if mark <= key])
    if spread[0] == "rest":
        return key % spread[1]
    return first_nearest(spread[1], vector, spread[2])[1]


def spread_out(spread, state):
    """Returns the tuple of the states of the items of each home."""
    states = [{} for _ in range(shard_count(spread))]
    for key, item in state.items():
        states[home_of(spread, item)][key] = item
    return tuple(states)


def strays(spread, states):
    """Returns the ascending tuple of `(key, shard, home)` of the items that are not at home."""
    found = []
    for shard, state in enumerate(states):
        homes = [(key, home_of(spread, state[key])) for key in state]
        found.extend([(key, shard, home) for key, home in homes if home != shard])
    return tuple(sorted(found))


def moves_for(spread, states):
    """Returns the ascending tuple of `(shard, home, keys)` that bring all items home."""
    keys = {}
    for key, shard, home in strays(spread, states):
        keys.setdefault((shard, home), []).append(key)
    return tuple([(shard, home, tuple(keys[(shard, home)])) for shard, home in sorted(keys)])
