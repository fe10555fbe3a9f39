"""Filters: which items count, by their labels."""

from nonearer.basics import has_word, is_int, is_name, is_number, lot_of
from nonearer.errors import InvalidFilter, Refused
from nonearer.items import label_of

# How many items a filter with each of these words has; `and` and `or` have three or more.
SIZES = {"all": 1, "has": 2, "in": 4, "not": 2}


def is_range(low, high):
    """Returns whether any two values are integers, the first at most the second."""
    return is_int(low) and is_int(high) and low <= high


def is_part(value):
    """Returns whether any value is a filter, if the filters in it are."""
    if not has_word(value):
        return False
    word = value[0]
    if word in ("and", "or"):
        return len(value) >= 3
    if word not in SIZES or len(value) != SIZES[word]:
        return False
    if word == "has":
        return is_name(value[1])
    if word == "in":
        return is_name(value[1]) and is_range(value[2], value[3])
    return True


def filters_in(part):
    """Returns the tuple of the filters of a `not`, `and` or `or`, `()` of others."""
    return part[1:] if part[0] in ("not", "and", "or") else ()


def parts_of(value):
    """Returns the list of the parts of any value, by their numbers, up to the first one that is no filter.

    The parts that wait are kept in a list, as a value may be nested deeper than calls can be.
    """
    parts = []
    waiting = [value]
    while len(waiting) > 0:
        part = waiting.pop()
        parts.append(part)
        if not is_part(part):
            return parts
        waiting.extend(filters_in(part)[::-1])
    return parts


def check_filter(value):
    """Raises an error for any value that is no filter."""
    parts = parts_of(value)
    if not is_part(parts[-1]):
        raise InvalidFilter(len(parts) - 1)


def is_filter(value):
    """Returns whether any value is a filter."""
    return is_part(parts_of(value)[-1])


def part_at(sieve, number):
    """Returns the part of a filter that has a number."""
    parts = parts_of(sieve)
    if not is_number(number) or number >= len(parts):
        raise Refused("part")
    return parts[number]


def filter_names(sieve):
    """Returns the lot of the names in a filter."""
    return lot_of([part[1] for part in parts_of(sieve) if part[0] in ("has", "in")])


def passes(sieve, item):
    """Returns whether an item passes a filter."""
    word = sieve[0]
    if word == "not":
        return not passes(sieve[1], item)
    if word == "and":
        return all([passes(part, item) for part in sieve[1:]])
    if word == "or":
        return any([passes(part, item) for part in sieve[1:]])
    if word == "all":
        return True
    label = label_of(item, sieve[1])
    if word == "has" or label is None:
        return label is not None
    return sieve[2] <= label <= sieve[3]
