"""Questions and deeds: checks, and the keys that deeds are about."""

from nonearer.basics import has_word, is_number, is_tuple_of
from nonearer.distances import is_kind
from nonearer.errors import InvalidItem, InvalidQuestion, Refused
from nonearer.filters import is_filter
from nonearer.items import check_item
from nonearer.vectors import is_vector


def check_question(value, places):
    """Raises an error for any value that is no question about vectors with so many places."""
    if not is_tuple_of(value, 4):
        raise InvalidQuestion(-1)
    kind, vector, many, sieve = value
    if not is_kind(kind):
        raise InvalidQuestion(0)
    if not is_vector(vector, places):
        raise InvalidQuestion(1)
    if not is_number(many) or many < 1:
        raise InvalidQuestion(2)
    if not is_filter(sieve):
        raise InvalidQuestion(3)


def is_question(value, places):
    """Returns whether any value is a question about vectors with so many places."""
    try:
        check_question(value, places)
    except InvalidQuestion:
        return False
    return True


def check_deed(value, places):
    """Raises an error for any value that is no deed about an item with so many places."""
    if not is_tuple_of(value, 2) or not has_word(value):
        raise Refused("deed")
    word, thing = value
    if word != "put" and (word != "take" or not is_number(thing)):
        raise Refused("deed")
    if word == "put":
        check_item(thing, places)


def is_deed(value, places):
    """Returns whether any value is a deed about an item with so many places."""
    try:
        check_deed(value, places)
    except (Refused, InvalidItem):
        return False
    return True


def deed_key(deed):
    """Returns the key that a deed is about."""
    return deed[1] if deed[0] == "take" else deed[1][0]
