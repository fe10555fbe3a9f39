"""Snapshots: the cells of a book, and back."""

from nonearer.cells import counted_cells, item_cells, joined_cells, number_cells
from nonearer.cells import read_counted, read_items, read_keys, read_number, read_parts, read_whole
from nonearer.errors import Broken
from nonearer.log import framed, read_frames
from nonearer.moves import Book

ITEMS = 7
SEAL = 8
MOST_ITEMS = 8


def items_cells(items):
    """Returns the cells of the number of some items, and of these."""
    return counted_cells([item_cells(item) for item in items])


def keys_cells(keys):
    """Returns the cells of the number of some keys, and of these."""
    return counted_cells([number_cells(key) for key in keys])


def item_records(book):
    """Returns the list of the cells of the records of the items that a book owns."""
    items = [book.state[key] for key in sorted(book.state)]
    return [framed((ITEMS,) + items_cells(items[at:at + MOST_ITEMS])) for at in range(0, len(items), MOST_ITEMS)]


def seal_record(book):
    """Returns the cells of the record behind those of the items."""
    waiting = [(move,) + book.waiting[move] for move in sorted(book.waiting)]
    gone = [(move,) + book.given_away[move] for move in sorted(book.given_away)]
    come_cells = [number_cells(move) + number_cells(source) + items_cells(items) for move, source, items in waiting]
    gone_cells = [number_cells(move) + number_cells(target) + keys_cells(keys) for move, target, keys in gone]
    head = (SEAL,) + number_cells(book.mark) + number_cells(len(book.state))
    return framed(head + counted_cells(come_cells) + counted_cells(gone_cells))


def snapshot_cells(book):
    """Returns the cells of a book."""
    return joined_cells(item_records(book) + [seal_record(book)])


def read_come(cells, at):
    """Returns a move that waits, its source and its items, and the index behind, or `None`."""
    return read_parts(cells, at, (read_number, read_number, read_items))


def read_gone(cells, at):
    """Returns a move that is gone, its target and its keys, and the index behind, or `None`."""
    return read_parts(cells, at, (read_number, read_number, read_keys))


def read_comes(cells, at):
    """Returns the moves that wait, and the index behind, or `None`."""
    return read_counted(cells, at, read_come)


def read_gones(cells, at):
    """Returns the moves that are gone, and the index behind, or `None`."""
    return read_counted(cells, at, read_gone)


def read_bodies(cells):
    """Returns the bodies of the records that some cells are, `()` if they are none."""
    try:
        bodies, many = read_frames(cells)
    except Broken:
        return ()
    return bodies if many == len(cells) else ()


def book_in(bodies):
    """Returns the book that the bodies of some records tell, or `None`; other bodies may tell the same one."""
    parts = [read_whole(body, 1, (read_items,)) for body in bodies[:-1]]
    seal = read_whole(bodies[-1], 1, (read_number, read_number, read_comes, read_gones))
    if seal is None or None in parts:
        return None
    mark, _, waiting, gone = seal
    state = {item[0]: item for part in parts for item in part[0]}
    return Book(state, {one[0]: one[1:] for one in waiting}, {one[0]: one[1:] for one in gone}, mark)


def read_snapshot(cells):
    """Returns the book that has just these cells, or `None`."""
    bodies = read_bodies(cells)
    book = book_in(bodies) if len(bodies) > 0 else None
    # What is not told of a book in one way alone is noticed here: doubles, another sequence, wrong first cells.
    return book if book is not None and snapshot_cells(book) == cells else None
