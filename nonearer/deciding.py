"""Exact answers to whether any labels pass a filter, or part two filters, found by trying enough of them."""

from nonearer.basics import lot_of
from nonearer.errors import Refused
from nonearer.filters import filter_names, parts_of
from nonearer.summaries import possible_integer, row_of

MOST_CHOICES = 20000


def cuts_by_name(sieve):
    """Returns a dict from each name in a filter to the lot of its cuts."""
    cuts = {name: [] for name in filter_names(sieve)}
    for part in parts_of(sieve):
        if part[0] == "in":
            cuts[part[1]].extend((part[2], part[3] + 1))
    return {name: lot_of(cuts[name]) for name in cuts}


def count_choices(sieve):
    """Returns the number of ways to choose, for each name in a filter, between no integer and those that cuts part."""
    many = 1
    for cuts in cuts_by_name(sieve).values():
        many = many * (len(cuts) + 2)
    return many


def check_size(sieve):
    """Raises an error if there are too many choices for a filter."""
    if count_choices(sieve) > MOST_CHOICES:
        raise Refused("size")


def gaps_of(cuts, least, greatest):
    """Returns the list of the first and last integers of what cuts part, from `least` to `greatest` at least."""
    if len(cuts) == 0:
        return [(least, greatest)]
    lows = [min(least, cuts[0] - 1)] + list(cuts)
    highs = [cut - 1 for cut in cuts] + [max(greatest, cuts[-1])]
    return list(zip(lows, highs))


def free_integers(cuts):
    """Returns the list of what is tried for a name: no integer, and one for each gap between its cuts."""
    return [None] + [low for low, _ in gaps_of(cuts, 0, 0)]


def possible_integers(name, cuts, told):
    """Returns the list of what is tried for a name: no integer, and one for each gap, as far as a summary allows it."""
    row = row_of(told, name)
    if row is None:
        return [None]
    integers = [possible_integer(row, low, high) for low, high in gaps_of(cuts, row[2], row[3])]
    found = [integer for integer in integers if integer is not None]
    return found if row[1] == told[0] else [None] + found


def meets(condition, integer):
    """Returns whether an item with this integer for the name of a `has` or `in`, or `None`, passes it."""
    if condition[0] == "has" or integer is None:
        return integer is not None
    return condition[2] <= integer <= condition[3]


def settled(sieve, name, integer):
    """Returns what is left of a filter when the integer of one name is known, `None` for none.

    It is a filter without the name and without `all`, or whether the items pass: `True` or `False`, and so may be
    what is passed.
    """
    if isinstance(sieve, bool) or sieve[0] == "all":
        return sieve is not False
    word = sieve[0]
    if word in ("has", "in"):
        return meets(sieve, integer) if sieve[1] == name else sieve
    parts = [settled(part, name, integer) for part in sieve[1:]]
    open_parts = [part for part in parts if not isinstance(part, bool)]
    if word == "not":
        return ("not", parts[0]) if len(open_parts) > 0 else not parts[0]
    winning = word == "or"
    if winning in parts:
        return winning
    if len(open_parts) == 0:
        return not winning
    return open_parts[0] if len(open_parts) == 1 else (word,) + tuple(open_parts)


def first_parting(one, other, choices):
    """Returns the labels of the first choice that just one of two settled filters lets pass, `None` if there is none.

    The choices are a list of pairs of a name and the list of what is tried for it; no other names are left.
    """
    if one == other:
        return None
    if len(choices) == 0:
        return ()
    name, integers = choices[0]
    for integer in integers:
        labels = first_parting(settled(one, name, integer), settled(other, name, integer), choices[1:])
        if labels is not None:
            return labels if integer is None else ((name, integer),) + labels
    return None


def without_all(sieve):
    """Returns what is left of a filter when no name is known yet."""
    return settled(sieve, "", None)


def possible_labels(sieve, told):
    """Returns some labels that pass a filter and are possible for a summary, `None` if there are none."""
    check_size(sieve)
    if told[0] == 0:
        return None
    cuts = cuts_by_name(sieve)
    choices = [(name, possible_integers(name, cuts[name], told)) for name in sorted(cuts)]
    labels = first_parting(without_all(sieve), False, choices)
    if labels is None:
        return None
    others = [(row[0], row[2]) for row in told[1] if row[1] == told[0] and row[0] not in cuts]
    return tuple(sorted(list(labels) + others))


def passing_labels(sieve):
    """Returns some labels that pass a filter, `None` if none do."""
    check_size(sieve)
    cuts = cuts_by_name(sieve)
    return first_parting(without_all(sieve), False, [(name, free_integers(cuts[name])) for name in sorted(cuts)])


def parting_labels(one, other):
    """Returns some labels that just one of two filters lets pass, `None` if there are none."""
    both = ("or", ("and", one, ("not", other)), ("and", ("not", one), other))
    check_size(both)
    cuts = cuts_by_name(both)
    choices = [(name, free_integers(cuts[name])) for name in sorted(cuts)]
    return first_parting(without_all(one), without_all(other), choices)
