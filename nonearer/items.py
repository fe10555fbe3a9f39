"""Items: keys with vectors and labels."""

from nonearer.basics import is_int, is_name, is_number, is_rising, is_tuple_of
from nonearer.errors import InvalidItem
from nonearer.vectors import is_vector


def is_label(value):
    """Returns whether any value is a pair of a name and an integer."""
    return is_tuple_of(value, 2) and is_name(value[0]) and is_int(value[1])


def are_labels(value):
    """Returns whether any value is an ascending tuple of labels without two equal names."""
    if not isinstance(value, tuple) or not all([is_label(label) for label in value]):
        return False
    return is_rising([label[0] for label in value])


def check_item(value, many):
    """Raises an error for any value that is no item with a vector of so many places."""
    if not is_tuple_of(value, 3):
        raise InvalidItem(-1)
    if not is_number(value[0]):
        raise InvalidItem(0)
    if not is_vector(value[1], many):
        raise InvalidItem(1)
    if not are_labels(value[2]):
        raise InvalidItem(2)


def is_item(value, many):
    """Returns whether any value is an item with a vector of so many places."""
    try:
        check_item(value, many)
    except InvalidItem:
        return False
    return True


def label_of(item, name):
    """Returns the integer of an item's label with a name, `None` if it has none."""
    for label in item[2]:
        if label[0] == name:
            return label[1]
    return None


def with_label(item, name, value):
    """Returns the item with another integer for a label, or without the label if this is `None`."""
    key, vector, labels = item
    others = [label for label in labels if label[0] != name]
    own = [] if value is None else [(name, value)]
    return key, vector, tuple(sorted(others + own))
