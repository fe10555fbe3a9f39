"""Moves of items between shards: what logs mean, and how all shards agree again when some of them were cut."""

from nonearer.basics import is_lot_of_numbers, is_number, is_rising, is_tuple_of, lot_of
from nonearer.errors import Refused
from nonearer.plain import done, state_of
from nonearer.questions import deed_key


class Book:
    """What the entries of a shard's log mean: the items that it owns, what waits, what is gone, and the next move."""

    def __init__(self, state, waiting, given_away, mark):
        self.state = dict(state)
        self.waiting = dict(waiting)
        self.given_away = dict(given_away)
        self.mark = mark


def empty_book():
    """Returns the book of a log without entries."""
    return Book({}, {}, {}, 0)


def keys_of(items):
    """Returns the tuple of the keys of some items."""
    return tuple([item[0] for item in items])


def waiting_keys(book):
    """Returns the list of the keys of all items that wait."""
    return [item[0] for _, items in book.waiting.values() for item in items]


def is_right_start(book, move, keys):
    """Returns whether a move may come or be gone with some keys: one or more, ascending, and none before the mark."""
    return move >= book.mark and len(keys) > 0 and is_rising(keys)


def is_right_entry(book, entry):
    """Returns whether an entry may stand behind those of a book."""
    word, what = entry[0], entry[1]
    if word == "deed":
        return deed_key(what) not in waiting_keys(book)
    if word == "come":
        keys = keys_of(entry[3])
        there = waiting_keys(book)
        is_new = all([key not in book.state and key not in there for key in keys])
        return is_new and is_right_start(book, what, keys)
    if word == "gone":
        return all([key in book.state for key in entry[3]]) and is_right_start(book, what, entry[3])
    return what in (book.given_away if word == "done" else book.waiting)


def without(table, key):
    """Returns the dict that a dict without one of its keys is."""
    return {other: table[other] for other in table if other != key}


def noted(book, entry):
    """Returns the book after one more entry."""
    if not is_right_entry(book, entry):
        raise Refused("entry")
    word, what = entry[0], entry[1]
    state, waiting, given_away, mark = book.state, book.waiting, book.given_away, book.mark
    if word == "deed":
        return Book(done(state, what), waiting, given_away, mark)
    if word == "come":
        return Book(state, {**waiting, what: entry[2:]}, given_away, what + 1)
    if word == "gone":
        left = {key: state[key] for key in state if key not in entry[3]}
        return Book(left, waiting, {**given_away, what: entry[2:]}, what + 1)
    if word == "here":
        return Book({**state, **state_of(waiting[what][1])}, without(waiting, what), given_away, mark)
    if word == "drop":
        return Book(state, without(waiting, what), given_away, mark)
    return Book(state, waiting, without(given_away, what), mark)


def book_of(entries):
    """Returns the book of a log."""
    book = empty_book()
    for entry in entries:
        book = noted(book, entry)
    return book


def books_of(logs):
    """Returns the tuple of the books of logs, each a pair of its entries and how many of them are safe."""
    return tuple([book_of(entries) for entries, _ in logs])


def after_steps(logs, steps):
    """Returns the logs after some steps."""
    left = list(logs)
    for step in steps:
        entries, synced = left[step[1]]
        if step[0] == "write":
            left[step[1]] = (entries + (step[2],), synced)
        else:
            left[step[1]] = (entries, len(entries))
    return tuple(left)


def may_stay(log, value):
    """Returns whether any value is a number of entries of a log that a cut may leave."""
    return is_number(value) and log[1] <= value <= len(log[0])


def cut_logs(logs, kept):
    """Returns the logs that a cut leaves, by a tuple of how many entries of each one stay."""
    if not is_tuple_of(kept, len(logs)) or not all([may_stay(log, many) for log, many in zip(logs, kept)]):
        raise Refused("kept")
    return tuple([(log[0][:many], many) for log, many in zip(logs, kept)])


def is_shard(books, value):
    """Returns whether any value is the number of a shard of some books."""
    return is_number(value) and value < len(books)


def are_unlike_shards(books, source, target):
    """Returns whether any two values are unlike numbers of shards of some books."""
    return is_shard(books, source) and is_shard(books, target) and source != target


def move_steps(books, source, target, keys):
    """Returns the seven steps that move the items with some keys from one shard to another one."""
    if not are_unlike_shards(books, source, target):
        raise Refused("shard")
    owned = books[source].state
    if not is_lot_of_numbers(keys) or len(keys) == 0 or not all([key in owned for key in keys]):
        raise Refused("keys")
    move = max([book.mark for book in books])
    items = tuple([owned[key] for key in keys])
    return (("write", target, ("come", move, source, items)), ("sync", target),
            ("write", source, ("gone", move, target, keys)), ("sync", source),
            ("write", target, ("here", move)), ("sync", target),
            ("write", source, ("done", move)))


def is_given_away(books, source, move, target):
    """Returns whether a source, if it is a shard, has given away a move to just this target."""
    if not is_shard(books, source) or move not in books[source].given_away:
        return False
    return books[source].given_away[move][0] == target


def moves_waiting(books):
    """Returns the list of `(shard, move, source, is_given)` for all moves that wait, by shards, then moves.

    `is_given` tells whether the source has given the move away to just this shard.
    """
    waiting = [(shard, move, book.waiting[move][0])
               for shard, book in enumerate(books) for move in sorted(book.waiting)]
    return [(shard, move, source, is_given_away(books, source, move, shard)) for shard, move, source in waiting]


def settling_steps(books):
    """Returns the steps behind which no move waits or is gone."""
    waiting = moves_waiting(books)
    sources = lot_of([source for _, _, source, is_given in waiting if is_given])
    answers = [("write", shard, ("here" if is_given else "drop", move)) for shard, move, _, is_given in waiting]
    targets = lot_of([shard for shard, _, _, _ in waiting])
    ends = [("write", shard, ("done", move)) for shard, book in enumerate(books) for move in sorted(book.given_away)]
    return (tuple([("sync", shard) for shard in sources]) + tuple(answers)
            + tuple([("sync", shard) for shard in targets]) + tuple(ends))


def whole_items(books):
    """Returns the list of all items that are owned, or that wait and have been given away to just that shard."""
    items = [item for book in books for item in book.state.values()]
    for shard, move, _, is_given in moves_waiting(books):
        if is_given:
            items.extend(books[shard].waiting[move][1])
    return items


def whole_state(books):
    """Returns the state of all items that are owned, or that wait and have been given away to just that shard."""
    items = whole_items(books)
    state = state_of(items)
    if len(state) < len(items):
        raise Refused("key")
    return state


def is_known(books, shard, move):
    """Returns whether the target of a move that is gone from a shard waits for it, or has done so."""
    target, keys = books[shard].given_away[move]
    if not is_shard(books, target):
        return False
    if move not in books[target].waiting:
        return books[target].mark > move
    source, items = books[target].waiting[move]
    return source == shard and keys_of(items) == keys


def are_agreed(books):
    """Returns whether books fit together, as those do that moves and cuts leave."""
    items = whole_items(books)
    if len(state_of(items)) < len(items):
        return False
    if not all([is_shard(books, source) for _, _, source, _ in moves_waiting(books)]):
        return False
    return all([is_known(books, shard, move) for shard, book in enumerate(books) for move in book.given_away])
