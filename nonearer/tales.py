"""Tales: what deeds may leave of a state when a cut takes some of them that are not safe."""

from nonearer.questions import deed_key


def outcomes(before, deeds, safe):
    """Returns a dict from each key of a state or of deeds to the list of what may be left: its items, or `None`.

    The first one is left by the deeds up to the last safe one with the key, the others by one more deed each.
    """
    left = {key: [before[key]] for key in before}
    are_safe = {number: True for number in safe}
    for number, deed in enumerate(deeds):
        key = deed_key(deed)
        item = deed[1] if deed[0] == "put" else None
        if number in are_safe:
            left[key] = [item]
        else:
            left.setdefault(key, [None]).append(item)
    return left


def lost_keys(before, deeds, safe, after):
    """Returns the lot of the keys for which a state is not what deeds may leave of another one."""
    left = outcomes(before, deeds, safe)
    keys = sorted(set(list(left) + list(after)))
    return tuple([key for key in keys if after.get(key) not in left.get(key, [None])])


def may_be_left(before, deeds, safe, after):
    """Returns whether a state is what deeds may leave of another one."""
    return len(lost_keys(before, deeds, safe, after)) == 0


def least_left(before, deeds, safe):
    """Returns the state that is left of another one if each key's deeds are lost behind the last safe one."""
    left = outcomes(before, deeds, safe)
    return {key: items[0] for key, items in left.items() if items[0] is not None}


def left_count(before, deeds, safe):
    """Returns how many unlike states deeds may leave of a state."""
    many = 1
    for items in outcomes(before, deeds, safe).values():
        many = many * len(set(items))
    return many
