"""What integers, numbers, names and lots are: the helpers that all other modules share.

Each check looks at the kinds of values before it compares anything, so it takes any value.
"""

LETTERS = "abcdefghijklmnopqrstuvwxyz"
DIGITS = "0123456789"


def is_int(value):
    """Returns whether any value is an integer: `True` and `False` are none."""
    return isinstance(value, int) and not isinstance(value, bool)


def is_number(value):
    """Returns whether any value is an integer from 0 on."""
    return is_int(value) and value >= 0


def is_tuple_of(value, many):
    """Returns whether any value is a tuple of so many items."""
    return isinstance(value, tuple) and len(value) == many


def is_word_of(value, signs, most):
    """Returns whether any value is a string of 1 to `most` of some signs."""
    return isinstance(value, str) and 1 <= len(value) <= most and all([sign in signs for sign in value])


def is_name(value):
    """Returns whether any value is a string of 1 to 8 lower-case letters."""
    return is_word_of(value, LETTERS, 8)


def is_numeral(value, most):
    """Returns whether any value is a string of 1 to `most` digits that does not begin with `0`, or is `0` itself."""
    return is_word_of(value, DIGITS, most) and (value[0] != "0" or value == "0")


def has_word(value):
    """Returns whether any value is a tuple that begins with a string."""
    return isinstance(value, tuple) and len(value) > 0 and isinstance(value[0], str)


def is_rising(things):
    """Returns whether each of some things that Python compares is less than the next one."""
    return all([one < other for one, other in zip(things, things[1:])])


def is_lot_of_numbers(value):
    """Returns whether any value is a lot of numbers."""
    return isinstance(value, tuple) and all([is_number(number) for number in value]) and is_rising(value)


def lot_of(things):
    """Returns the lot of a list of things that may be members of a set."""
    return tuple(sorted(set(things)))


def is_same(value, wanted):
    """Returns whether any value is equal to a thing made of tuples, strings and integers, and of the same kinds."""
    if isinstance(wanted, tuple):
        return is_tuple_of(value, len(wanted)) and all([is_same(one, other) for one, other in zip(value, wanted)])
    if isinstance(wanted, str):
        return isinstance(value, str) and value == wanted
    return is_int(value) and value == wanted


def without_doubles(things):
    """Returns the lot of things that Python compares, but that need not be members of a set."""
    ordered = sorted(things)
    return tuple([thing for at, thing in enumerate(ordered) if at == 0 or thing != ordered[at - 1]])
