"""Indexes that are built of a state."""

from math import isqrt

from nonearer.basics import is_number
from nonearer.distances import distance, first_nearest, is_kind, place_by
from nonearer.errors import InvalidNumber, Refused
from nonearer.lots import Index, empty_lot
from nonearer.regions import cell_of, is_form, region_of
from nonearer.summaries import summary
from nonearer.vectors import at_places, halves_of, middle_of


def check_built(kind, form, room):
    """Raises an error for any values that are not the kind, the form and the room of an index."""
    if not is_kind(kind):
        raise Refused("kind")
    if not is_form(form):
        raise Refused("form")
    if not is_number(room) or room < 1:
        raise InvalidNumber("room")


def centres_of(kind, vectors, many):
    """Returns at most `many` unlike ones of some vectors, each as far as can be from those before."""
    found = [vectors[first_nearest(kind, middle_of(vectors), vectors)[1]]]
    away = [distance(kind, found[0], vector) for vector in vectors]
    while len(found) < many and max(away) > 0:
        centre = vectors[away.index(max(away))]
        found.append(centre)
        away = [min(before, distance(kind, centre, vector)) for before, vector in zip(away, vectors)]
    return tuple(found)


def cells_of(kind, centres, vectors):
    """Returns for each centre the tuple of the indices of the vectors that are nearest to it."""
    cells = [[] for _ in centres]
    for at, vector in enumerate(vectors):
        cells[first_nearest(kind, vector, centres)[1]].append(at)
    return tuple([tuple(cell) for cell in cells])


def rings_of(kind, centre, vectors):
    """Returns the indices of vectors in two tuples, those nearer to a centre and those farther."""
    indices = place_by(kind, centre, vectors)
    middle = (len(indices) + 1) // 2
    return indices[:middle], indices[middle:]


def items_at(state, keys):
    """Returns the tuple of the items with some keys."""
    return tuple([state[key] for key in keys])


def vectors_at(state, keys):
    """Returns the tuple of the vectors of the items with some keys."""
    return tuple([state[key][1] for key in keys])


def parted_keys(keys, parts):
    """Returns the list of the lots of the keys at each of some tuples of indices."""
    return [tuple(sorted(at_places(keys, part))) for part in parts]


def lot_with(state, keys, region, lots):
    """Returns the lot for some keys with a region, and with these lots, or a content of keys if there are none."""
    content = ("lots", tuple(lots)) if len(lots) > 0 else ("items", keys)
    return region, summary(items_at(state, keys)), content


def halved_lot(state, keys, kind, form, room):
    """Returns the lot of balls or boxes that is built for one or more keys."""
    vectors = vectors_at(state, keys)
    parts = parted_keys(keys, halves_of(vectors)) if len(keys) > room else []
    lots = [halved_lot(state, part, kind, form, room) for part in parts]
    return lot_with(state, keys, region_of(kind, form, vectors), lots)


def ringed_lot(state, keys, kind, centre, room):
    """Returns the lot for one or more keys with a cell around a centre, parted by the distance from it."""
    vectors = vectors_at(state, keys)
    parts = parted_keys(keys, rings_of(kind, centre, vectors)) if len(keys) > room else []
    lots = [ringed_lot(state, part, kind, centre, room) for part in parts]
    return lot_with(state, keys, cell_of(kind, centre, vectors), lots)


def celled_lot(state, keys, kind, room):
    """Returns the lot of cells that is built for one or more keys."""
    vectors = vectors_at(state, keys)
    centres = centres_of(kind, vectors, max(2, isqrt(len(keys))))
    if len(centres) == 1 or len(keys) <= room:
        return ringed_lot(state, keys, kind, centres[0], room)
    parts = parted_keys(keys, cells_of(kind, centres, vectors))
    lots = [ringed_lot(state, part, kind, centre, room) for part, centre in zip(parts, centres)]
    return lot_with(state, keys, cell_of(kind, centres[0], vectors), lots)


def built_lot(state, keys, kind, form, *, room):
    """Returns the lot that is built for the items with the keys of a lot."""
    check_built(kind, form, room)
    if len(keys) == 0:
        return empty_lot(form)
    if form == "cells":
        return celled_lot(state, keys, kind, room)
    return halved_lot(state, keys, kind, form, room)


def built(state, kind, form, *, room):
    """Returns an index of a state."""
    return Index(kind, form, built_lot(state, tuple(sorted(state)), kind, form, room=room), room)


def most_depth(count, form):
    """Returns the depth that an index is built with, at most, for so many items."""
    if count == 0:
        return 1
    halving = 1 + (count - 1).bit_length()
    return halving + 1 if form == "cells" and count > 1 else halving


def most_lots(count):
    """Returns the number of lots that a sound index of so many items has at most."""
    return 1 if count == 0 else 2 * count - 1
