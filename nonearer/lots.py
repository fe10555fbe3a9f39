"""Indexes: all items in one lot, which may have lots of its own, each with a region and a summary."""

from nonearer.basics import has_word, is_lot_of_numbers, is_number, is_tuple_of
from nonearer.distances import is_kind
from nonearer.regions import holds_vector, is_form, is_region
from nonearer.summaries import is_summary, summary

EMPTY_REGIONS = {"balls": ("ball", (), 0), "boxes": ("box", (), ()), "cells": ("cell", (), 0, 0)}


class Index:
    """An index of some items, by one kind of distance and with regions of one form."""

    def __init__(self, kind, form, lot, room):
        self.kind = kind
        self.form = form
        self.lot = lot
        self.room = room

    def __eq__(self, other):
        """Returns whether another value is an index with equal attributes."""
        return (isinstance(other, Index) and self.kind == other.kind and self.form == other.form
                and self.lot == other.lot and self.room == other.room)


def empty_lot(form):
    """Returns the lot of an index without items."""
    return EMPTY_REGIONS[form], (0, ()), ("items", ())


def lots_in(lot):
    """Returns the lots in the content of a lot."""
    return lot[2][1] if lot[2][0] == "lots" else ()


def own_keys(lot):
    """Returns the keys in the content of a lot."""
    return lot[2][1] if lot[2][0] == "items" else ()


def lots_from(lot):
    """Returns the list of a lot and all lots in it, in the sequence of their numbers.

    The lots that wait are kept in a list, as lots may lie deeper in one another than calls can.
    """
    found = []
    waiting = [lot]
    while len(waiting) > 0:
        found.append(waiting.pop())
        waiting.extend(lots_in(found[-1])[::-1])
    return found


def all_lots(index):
    """Returns all lots of an index, in the sequence of their numbers."""
    return tuple(lots_from(index.lot))


def lot_count(index):
    """Returns how many lots an index has."""
    return len(lots_from(index.lot))


def depth_from(lot):
    """Returns how many lots lie one in another at most, from a lot on."""
    depth = 0
    level = [lot]
    while len(level) > 0:
        depth += 1
        level = [inner for one in level for inner in lots_in(one)]
    return depth


def depth_of(index):
    """Returns how many lots of an index lie one in another at most."""
    return depth_from(index.lot)


def all_keys(lot):
    """Returns the lot of the keys of all items of a lot."""
    return tuple(sorted([key for one in lots_from(lot) for key in own_keys(one)]))


def lot_at(index, path):
    """Returns the lot to which a path leads."""
    lot = index.lot
    for at in path:
        lot = lots_in(lot)[at]
    return lot


def path_of(index, key):
    """Returns the path to the lot whose content has a key, `None` if there is none."""
    waiting = [((), index.lot)]
    while len(waiting) > 0:
        path, lot = waiting.pop()
        if key in own_keys(lot):
            return path
        waiting.extend([(path + (at,), inner) for at, inner in enumerate(lots_in(lot))][::-1])
    return None


def is_content(value, room):
    """Returns whether any value is a content of at most `room` keys, or of lots that are tuples of three."""
    if not is_tuple_of(value, 2) or not has_word(value):
        return False
    word, things = value
    if word == "lots":
        return isinstance(things, tuple) and len(things) >= 2 and all([is_tuple_of(lot, 3) for lot in things])
    return word == "items" and is_lot_of_numbers(things) and len(things) <= room


def is_named_index(value):
    """Returns whether any value is an index with a kind, a form and a room."""
    if not isinstance(value, Index) or not is_kind(value.kind) or not is_form(value.form):
        return False
    return is_number(value.room) and value.room >= 1


def form_fault(lot, room):
    """Returns the number of the first lot, in any value, that is no lot with a content, `None` if there is none."""
    waiting = [lot]
    number = 0
    while len(waiting) > 0:
        one = waiting.pop()
        if not is_tuple_of(one, 3) or not is_content(one[2], room):
            return number
        waiting.extend(lots_in(one)[::-1])
        number += 1
    return None


def keys_fault(lots, state):
    """Returns the first fault that the keys of all lots have in regard to a state, `None` if they have none."""
    left = dict(state)
    for number, lot in enumerate(lots):
        for key in own_keys(lot):
            if key not in left:
                return "key", number
            del left[key]
    return ("missing", min(left)) if len(left) > 0 else None


def has_right_region(index, lot, items):
    """Returns whether the region of a lot, any value, is one of the index's form that holds these items."""
    region = lot[0]
    empty = EMPTY_REGIONS[index.form]
    places = len(items[0][1]) if len(items) > 0 else 0
    if not is_region(region, places) or region[0] != empty[0]:
        return False
    if len(items) == 0:
        return region == empty
    return all([holds_vector(index.kind, region, item[1]) for item in items])


def lot_fault(index, lot, number, state):
    """Returns the first fault that a lot has in regard to its items in a state, `None` if it has none."""
    items = tuple([state[key] for key in all_keys(lot)])
    if len(items) == 0 and number > 0:
        return "empty", number
    if not has_right_region(index, lot, items):
        return "region", number
    if not is_summary(lot[1]) or lot[1] != summary(items):
        return "summary", number
    return None


def index_fault(value, state):
    """Returns `None` if any value is a sound index of a state, otherwise its first fault."""
    if not is_named_index(value):
        return "form", -1
    number = form_fault(value.lot, value.room)
    if number is not None:
        return "form", number
    lots = all_lots(value)
    fault = keys_fault(lots, state)
    if fault is not None:
        return fault
    for number, lot in enumerate(lots):
        fault = lot_fault(value, lot, number, state)
        if fault is not None:
            return fault
    return None


def is_sound(value, state):
    """Returns whether any value is a sound index of a state."""
    return index_fault(value, state) is None
