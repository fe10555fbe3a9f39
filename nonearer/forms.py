"""Plain filters: one form for filters that let the same items pass."""

from nonearer.basics import is_rising, without_doubles

SINGLE = ("has", "in")
OTHER_WORDS = {"and": "or", "or": "and"}


def has_opposites(parts):
    """Returns whether a single condition is among some filters together with its `not`."""
    return any([part[0] in SINGLE and ("not", part) in parts for part in parts])


def is_plain_part(part):
    """Returns whether a filter is plain and `all` occurs nowhere in it."""
    word = part[0]
    if word == "all":
        return False
    if word == "not":
        return part[1][0] in SINGLE
    if word in SINGLE:
        return True
    inner = part[1:]
    if not is_rising(inner) or has_opposites(inner):
        return False
    return all([one[0] != word and is_plain_part(one) for one in inner])


def is_plain_filter(sieve):
    """Returns whether a filter is plain."""
    return sieve == ("all",) or sieve == ("not", ("all",)) or is_plain_part(sieve)


def joined_plain(word, parts):
    """Returns the plain form of an `and` or `or` of what `plain_form` returns for its filters."""
    winning = word == "or"
    if winning in parts:
        return winning
    kept = []
    for part in [one for one in parts if not isinstance(one, bool)]:
        if part[0] == word:
            kept.extend(part[1:])
        else:
            kept.append(part)
    lot = without_doubles(kept)
    if has_opposites(lot):
        return winning
    if len(lot) == 0:
        return not winning
    return lot[0] if len(lot) == 1 else (word,) + lot


def plain_form(sieve, wanted):
    """Returns a plain filter without `all` for the items of which it is `wanted` whether they pass a filter.

    It is `True` if these are all items, and `False` if there are none.
    """
    word = sieve[0]
    if word == "all":
        return wanted
    if word == "not":
        return plain_form(sieve[1], not wanted)
    if word in SINGLE:
        return sieve if wanted else ("not", sieve)
    return joined_plain(word if wanted else OTHER_WORDS[word], [plain_form(part, wanted) for part in sieve[1:]])


def as_filter(form):
    """Returns the plain filter for what `plain_form` returns."""
    if isinstance(form, bool):
        return ("all",) if form else ("not", ("all",))
    return form


def plain_filter(sieve):
    """Returns a plain filter that lets the same items pass as a filter."""
    return as_filter(plain_form(sieve, True))


def opposite_filter(sieve):
    """Returns a plain filter that lets just the items pass that a filter does not."""
    return as_filter(plain_form(sieve, False))
