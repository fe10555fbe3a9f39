"""Indexes that are changed deed by deed, with only a few lots made anew."""

from nonearer.building import built, built_lot, items_at, ringed_lot, vectors_at
from nonearer.lots import Index, all_keys, all_lots, depth_from, empty_lot, is_sound, lots_in, path_of
from nonearer.plain import deeds_between, done
from nonearer.regions import cell_of, floor_of, region_of
from nonearer.summaries import summary


def depth_limit(count):
    """Returns how many lots may lie one in another at most in a tidy lot of so many items."""
    return 3 if count == 0 else 3 + 2 * (count - 1).bit_length()


def fitting_region(index, region, vectors):
    """Returns the region that just fits one or more vectors; a cell keeps the centre that its region has."""
    if index.form == "cells":
        return cell_of(index.kind, region[1], vectors)
    return region_of(index.kind, index.form, vectors)


def is_tidy_lot(index, state, lot):
    """Returns whether a lot of a sound index is tidy."""
    keys = all_keys(lot)
    if (len(lots_in(lot)) > 0) != (len(keys) > index.room) or depth_from(lot) > depth_limit(len(keys)):
        return False
    return len(keys) == 0 or lot[0] == fitting_region(index, lot[0], vectors_at(state, keys))


def tidy_fault(index, state):
    """Returns the number of the first lot of a sound index that is not tidy, `None` if all are."""
    for number, lot in enumerate(all_lots(index)):
        if not is_tidy_lot(index, state, lot):
            return number
    return None


def is_tidy(value, state):
    """Returns whether any value is a sound index of a state with tidy lots only."""
    return is_sound(value, state) and tidy_fault(value, state) is None


def place_for(index, lots, vector):
    """Returns the index of the one of some lots to which a vector goes."""
    return min([(floor_of(index.kind, lot[0], vector), lot[1][0], at) for at, lot in enumerate(lots)])[2]


def lots_along(index, path):
    """Returns the list of the lots to which the beginnings of a path lead, that of all items first."""
    lots = [index.lot]
    for at in path:
        lots.append(lots_in(lots[-1])[at])
    return lots


def holding_lots(index, key):
    """Returns the tuple of the lots that have the item with a key, from the lot of all items on."""
    path = path_of(index, key)
    return () if path is None else tuple(lots_along(index, path))


def way_of(index, vector):
    """Returns the path of the way of a vector."""
    path = ()
    inner = lots_in(index.lot)
    while len(inner) > 0:
        at = place_for(index, inner, vector)
        path = path + (at,)
        inner = lots_in(inner[at])
    return path


def fitted(index, state, region, content, keys):
    """Returns the lot with a content, for the items with some keys, that has the region and summary that these need."""
    return fitting_region(index, region, vectors_at(state, keys)), summary(items_at(state, keys)), content


def not_too_deep(index, state, lot):
    """Returns a lot, built anew if too many lots lie one in another in it."""
    if depth_from(lot) <= depth_limit(lot[1][0]):
        return lot
    return built_lot(state, all_keys(lot), index.kind, index.form, room=index.room)


def replaced_at(lots, at, changed):
    """Returns the lots with the changed one at an index, or without it if it is `None`."""
    return lots[:at] + (() if changed is None else (changed,)) + lots[at + 1:]


def with_lot(index, lot):
    """Returns the index with another lot of all items."""
    return Index(index.kind, index.form, lot, index.room)


def lot_of_keys(index, state, region, keys):
    """Returns the lot for the keys that a lot of items has after a put, parted if these are too many."""
    if len(keys) <= index.room:
        return fitted(index, state, region, ("items", keys), keys)
    if index.form == "cells":
        return ringed_lot(state, keys, index.kind, region[1], index.room)
    return built_lot(state, keys, index.kind, index.form, room=index.room)


def lot_put_into(index, state, lot, at, changed):
    """Returns a lot of lots on the way of a put, with a changed lot in place of the one at an index."""
    lots = replaced_at(lots_in(lot), at, changed)
    keys = tuple(sorted([key for inner in lots for key in all_keys(inner)]))
    return not_too_deep(index, state, fitted(index, state, lot[0], ("lots", lots), keys))


def with_item(index, state, item):
    """Returns the index and the state that a put leaves of a tidy index and its state."""
    key = item[0]
    if key in state:
        index, state = without_key(index, state, key)
    left = done(state, ("put", item))
    if len(state) == 0:
        return built(left, index.kind, index.form, room=index.room), left
    path = way_of(index, item[1])
    lots = lots_along(index, path)
    changed = lot_of_keys(index, left, lots[-1][0], tuple(sorted(all_keys(lots[-1]) + (key,))))
    for depth in range(len(path) - 1, -1, -1):
        changed = lot_put_into(index, left, lots[depth], path[depth], changed)
    return with_lot(index, changed), left


def lot_taken_from(index, state, lot, key, lots):
    """Returns what becomes of a lot when a key is taken, with the lots that are left in it, `None` if no item is."""
    keys = tuple([other for other in all_keys(lot) if other != key])
    if len(keys) == 0:
        return None
    if len(keys) <= index.room:
        return fitted(index, state, lot[0], ("items", keys), keys)
    if len(lots) == 1:
        return lots[0]
    return not_too_deep(index, state, fitted(index, state, lot[0], ("lots", lots), keys))


def without_key(index, state, key):
    """Returns the index and the state that a take leaves of a tidy index and its state."""
    left = done(state, ("take", key))
    if key not in state:
        return index, left
    path = path_of(index, key)
    lots = lots_along(index, path)
    changed = lot_taken_from(index, left, lots[-1], key, ())
    for depth in range(len(path) - 1, -1, -1):
        inner = replaced_at(lots_in(lots[depth]), path[depth], changed)
        changed = lot_taken_from(index, left, lots[depth], key, inner)
    return with_lot(index, empty_lot(index.form) if changed is None else changed), left


def after_deed(index, state, deed):
    """Returns the index and the state that a deed leaves of a tidy index and its state."""
    if deed[0] == "put":
        return with_item(index, state, deed[1])
    return without_key(index, state, deed[1])


def after_deeds(index, state, deeds):
    """Returns the index and the state that deeds leave of a tidy index and its state, one after another."""
    left = dict(state)
    for deed in deeds:
        index, left = after_deed(index, left, deed)
    return index, left


def rebuilt(index, state):
    """Returns the index that is built of a state like another index."""
    return built(state, index.kind, index.form, room=index.room)


def changed_into(index, state, other):
    """Returns a tidy index of another state, for a tidy index of a state."""
    deeds = deeds_between(state, other)
    if 2 * len(deeds) > len(other):
        return rebuilt(index, other)
    return after_deeds(index, state, deeds)[0]
