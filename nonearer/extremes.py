"""Extremes: the farthest items from a vector, and the pairs of items that are closest to one another."""

from nonearer.around import floor_between
from nonearer.distances import distance
from nonearer.filters import passes
from nonearer.lots import lot_at, lots_in, own_keys
from nonearer.pairs import passing_pairs
from nonearer.queue import Queue
from nonearer.regions import ceiling_of
from nonearer.summaries import may_pass


def far_lot_entries(question, paths_and_lots, most):
    """Returns the list of the entries of those of some lots, with their paths, that can pass.

    Entries begin with the negative of the greatest distance that there may be, as a queue gives the least one first;
    `most` is that of the lot around, `None` if there is none.
    """
    kind, vector, _, sieve = question
    kept = [(path, ceiling_of(kind, lot[0], vector)) for path, lot in paths_and_lots if may_pass(sieve, lot[1])]
    return [(-ceiling if most is None else -min(ceiling, most), "lot", path) for path, ceiling in kept]


def far_entries(state, question, lot, path, most):
    """Returns the list of the entries of what an opened lot has: lots that can pass, and pairs."""
    kind, vector, _, sieve = question
    lots = [(path + (at,), inner) for at, inner in enumerate(lots_in(lot))]
    pairs = passing_pairs(kind, vector, sieve, [state[key] for key in own_keys(lot)])
    return far_lot_entries(question, lots, most) + [(-away, "pair", key) for away, key in pairs]


def farthest(index, state, question):
    """Returns the pairs of the items that pass with the greatest distances, and the lot of the paths of opened lots."""
    pairs = []
    opened = []
    queue = Queue(far_lot_entries(question, [((), index.lot)], None))
    while len(pairs) < question[2] and queue.how_many() > 0:
        number, word, place = queue.take()
        if word == "pair":
            pairs.append((-number, place))
            continue
        opened.append(place)
        for entry in far_entries(state, question, lot_at(index, place), place, -number):
            queue.put(entry)
    return tuple(pairs), tuple(sorted(opened))


def floor_both_ways(kind, one, other):
    """Returns the lesser one of the floors between two regions."""
    return min(floor_between(kind, one, other), floor_between(kind, other, one))


def inner_paths(lot, path):
    """Returns the list of the paths of the lots in a lot, or of the lot itself if it has none."""
    inner = [path + (at,) for at in range(len(lots_in(lot)))]
    return inner if len(inner) > 0 else [path]


def close_lots(index, sieve, entry):
    """Returns the list of the entries for the lots in the two lots of an entry, which may be the same one twice."""
    number, _, path, other = entry
    entries = []
    for one_path in inner_paths(lot_at(index, path), path):
        for other_path in inner_paths(lot_at(index, other), other):
            one, two = lot_at(index, one_path), lot_at(index, other_path)
            is_met = path != other or one_path <= other_path
            if is_met and may_pass(sieve, one[1]) and may_pass(sieve, two[1]):
                floor = floor_both_ways(index.kind, one[0], two[0])
                entries.append((max(number, floor), "lots", one_path, other_path))
    return entries


def passing_own_keys(state, sieve, lot):
    """Returns the list of the keys in the content of a lot whose items pass."""
    return [key for key in own_keys(lot) if passes(sieve, state[key])]


def close_pairs(index, state, sieve, entry):
    """Returns the list of the entries for the pairs of items of the two lots of an entry, perhaps one lot twice."""
    _, _, path, other = entry
    keys = passing_own_keys(state, sieve, lot_at(index, path))
    others = passing_own_keys(state, sieve, lot_at(index, other))
    pairs = [(min(key, two), max(key, two)) for key in keys for two in others if path != other or key < two]
    return [(distance(index.kind, state[key][1], state[two][1]), "pair", key, two) for key, two in pairs]


def are_of_items(index, entry):
    """Returns whether neither of the two lots of an entry has lots."""
    return all([len(lots_in(lot_at(index, path))) == 0 for path in entry[2:]])


def closest(index, state, many, sieve):
    """Returns the first `many` of the ascending triples of the distance and the keys of two items that pass.

    It also returns how many pairs of such items were looked at to find them.
    """
    triples = []
    looked_at = 0
    queue = Queue([(0, "lots", (), ())] if may_pass(sieve, index.lot[1]) else ())
    while len(triples) < many and queue.how_many() > 0:
        entry = queue.take()
        if entry[1] == "pair":
            triples.append((entry[0], entry[2], entry[3]))
            continue
        of_items = are_of_items(index, entry)
        entries = close_pairs(index, state, sieve, entry) if of_items else close_lots(index, sieve, entry)
        looked_at += len(entries) if of_items else 0
        for inner in entries:
            queue.put(inner)
    return tuple(triples), looked_at
