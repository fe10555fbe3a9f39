"""Summaries: what is known of the labels of some items, and which filters this decides."""

from nonearer.basics import is_int, is_name, is_number, is_rising, is_tuple_of

OPPOSITES = {"none": "all", "some": "some", "all": "none"}


def joined_rows(rows):
    """Returns the ascending tuple with one row for each name, of rows some of which may have equal names."""
    numbers = {}
    for name, many, least, greatest in rows:
        if name in numbers:
            before = numbers[name]
            numbers[name] = (before[0] + many, min(before[1], least), max(before[2], greatest))
        else:
            numbers[name] = (many, least, greatest)
    return tuple([(name,) + numbers[name] for name in sorted(numbers)])


def summary(items):
    """Returns the summary of a tuple of items."""
    return len(items), joined_rows([(name, 1, integer, integer) for item in items for name, integer in item[2]])


def joined_summary(one, other):
    """Returns the summary of two lots of items together."""
    return one[0] + other[0], joined_rows(one[1] + other[1])


def is_row(value, count):
    """Returns whether any value is a row in the summary of so many items."""
    if not is_tuple_of(value, 4) or not is_name(value[0]) or not all([is_int(part) for part in value[1:]]):
        return False
    _, many, least, greatest = value
    return 1 <= many <= count and least <= greatest and (many > 1 or least == greatest)


def is_summary(value):
    """Returns whether any value is the summary of some items."""
    if not is_tuple_of(value, 2) or not is_number(value[0]) or not isinstance(value[1], tuple):
        return False
    count, rows = value
    return all([is_row(row, count) for row in rows]) and is_rising([row[0] for row in rows])


def example_labels(told):
    """Returns a tuple of the labels of items that have a summary."""
    count, rows = told
    # The first item with a name has the least integer, all others the greatest one.
    return tuple([tuple([(name, least if number == 0 else greatest)
                         for name, many, least, greatest in rows if number < many])
                  for number in range(count)])


def row_of(told, name):
    """Returns the row that a summary has for a name, `None` if it has none."""
    for row in told[1]:
        if row[0] == name:
            return row
    return None


def possible_integer(row, low, high):
    """Returns an integer from `low` to `high` that an item can have by a row, `None` if there is none."""
    _, many, least, greatest = row
    if low <= least <= high:
        return least
    if low <= greatest <= high:
        return greatest
    # Two items may be needed for the least and the greatest integer, so one between them needs a third.
    if many >= 3 and least < low and high < greatest:
        return low
    return None


def is_possible_label(label, told):
    """Returns whether an item can have a label by a summary."""
    name, integer = label
    row = row_of(told, name)
    return row is not None and possible_integer(row, integer, integer) is not None


def is_possible(labels, told):
    """Returns whether some items with a summary have one among them with these labels."""
    count, rows = told
    names = [label[0] for label in labels]
    if count == 0 or any([many == count and name not in names for name, many, _, _ in rows]):
        return False
    return all([is_possible_label(label, told) for label in labels])


def condition_verdict(condition, told):
    """Returns the verdict of a `has` or `in` on the summary of one or more items."""
    row = row_of(told, condition[1])
    if row is None:
        return "none"
    least, greatest = row[2:]
    low, high = (least, greatest) if condition[0] == "has" else condition[2:]
    if possible_integer(row, low, high) is None:
        return "none"
    if row[1] == told[0] and low <= least and greatest <= high:
        return "all"
    return "some"


def verdict(sieve, told):
    """Returns whether `"none"`, `"some"` or `"all"` of the items with a summary pass a filter, as far as this tells."""
    word = sieve[0]
    if told[0] == 0:
        return "none"
    if word == "all":
        return "all"
    if word == "not":
        return OPPOSITES[verdict(sieve[1], told)]
    if word in ("has", "in"):
        return condition_verdict(sieve, told)
    verdicts = [verdict(part, told) for part in sieve[1:]]
    winning = "none" if word == "and" else "all"
    if winning in verdicts:
        return winning
    return "some" if "some" in verdicts else OPPOSITES[winning]


def may_pass(sieve, told):
    """Returns whether, as far as a summary tells, one of its items may pass a filter."""
    return verdict(sieve, told) != "none"


def must_pass(sieve, told):
    """Returns whether a summary tells that all its items pass a filter."""
    return told[0] == 0 or verdict(sieve, told) == "all"
