"""[73]: the cells of books."""

import random
import unittest

from helper import Case, parts_of, some_labels, some_vector
from nonearer.cells import item_cells, number_cells
from nonearer.log import framed
from nonearer.moves import Book
from nonearer.snapshots import read_snapshot, snapshot_cells

ONE, TWO, THREE = (1, (0, -3), ()), (2, (3, 1), (("red", 1),)), (300, (4, 4), ())


def items_record(items):
    """Returns the cells of a record of items, of any number and in any sequence."""
    return framed((7,) + number_cells(len(items)) + sum((item_cells(item) for item in items), ()))


def seal(mark, many, waiting=(), gone=()):
    """Returns the cells of a seal, with moves in any sequence."""
    body = (8,) + number_cells(mark) + number_cells(many) + number_cells(len(waiting))
    for move, source, items in waiting:
        body += number_cells(move) + number_cells(source) + number_cells(len(items))
        body += sum((item_cells(item) for item in items), ())
    body += number_cells(len(gone))
    for move, target, keys in gone:
        body += number_cells(move) + number_cells(target) + number_cells(len(keys))
        body += sum((number_cells(key) for key in keys), ())
    return framed(body)


def some_items(draw, most):
    """Returns random items, ascending by key."""
    keys = sorted(draw.sample(range(500), draw.randint(0, most)))
    return tuple((key, some_vector(draw, draw.randint(1, 3), 200), some_labels(draw)) for key in keys)


def some_book(draw, most=20):
    """Returns a random book, its dicts in no order."""
    state = {item[0]: item for item in some_items(draw, most)}
    keys = list(state)
    draw.shuffle(keys)
    waiting = {move: (draw.randint(0, 200), some_items(draw, 3)) for move in draw.sample(range(300), draw.randint(0, 3))}
    gone = {move: (draw.randint(0, 200), tuple(draw.sample(range(300), draw.randint(0, 3))))
            for move in draw.sample(range(300), draw.randint(0, 3))}
    return Book({key: state[key] for key in keys}, waiting, gone, draw.choice((0, 1, 127, 128, 10 ** 9)))


def cells_by_words(book):
    """Returns the cells of a book, as [73] says."""
    items = [book.state[key] for key in sorted(book.state)]
    records = [items_record(items[at:at + 8]) for at in range(0, len(items), 8)]
    waiting = [(move,) + book.waiting[move] for move in sorted(book.waiting)]
    gone = [(move,) + book.given_away[move] for move in sorted(book.given_away)]
    return sum(records, ()) + seal(book.mark, len(items), waiting, gone)


class SnapshotTest(Case):

    def test_the_example(self):
        cells = snapshot_cells(Book({5: (5, (1,), ())}, {}, {}, 2))
        self.same(cells, (6, 7, 1, 5, 1, 2, 0, 38, 5, 8, 2, 1, 0, 0, 15))
        self.same(read_snapshot(cells).mark, 2)
        self.assertEqual(parts_of(read_snapshot(cells=cells)), ({5: (5, (1,), ())}, {}, {}, 2))
        self.assertIsNone(read_snapshot(cells[:9]))

    def test_the_empty_book(self):
        cells = snapshot_cells(book=Book({}, {}, {}, 0))
        self.same(cells, framed((8, 0, 0, 0, 0)))
        self.assertEqual(parts_of(read_snapshot(cells)), ({}, {}, {}, 0))

    def test_numbers_of_items(self):
        for many in (0, 1, 7, 8, 9, 15, 16, 17, 64, 65, 400):
            items = tuple((key, (key % 7,), ()) for key in range(many))
            cells = snapshot_cells(Book({item[0]: item for item in reversed(items)}, {}, {}, 3))
            self.same(cells, sum((items_record(items[at:at + 8]) for at in range(0, many, 8)), ()) + seal(3, many))
            self.assertEqual(read_snapshot(cells).state, {item[0]: item for item in items})

    def test_moves(self):
        book = Book({}, {9: (200, (THREE, ONE)), 3: (0, ())}, {130: (7, (5, 4, 4)), 2: (1, ())}, 4)
        cells = seal(4, 0, ((3, 0, ()), (9, 200, (THREE, ONE))), ((2, 1, ()), (130, 7, (5, 4, 4))))
        self.same(self.unchanged(snapshot_cells, book), cells)
        self.assertEqual(parts_of(read_snapshot(cells)), parts_of(book))

    def test_by_the_words(self):
        draw = random.Random(73)
        for _ in range(200):
            book = some_book(draw)
            cells = self.unchanged(snapshot_cells, book)
            self.same(cells, cells_by_words(book))
            again = read_snapshot(cells)
            self.assertIs(again.__class__, Book)
            self.assertEqual(parts_of(again), parts_of(book))
            self.assertIsNone(read_snapshot(cells + cells))
            self.assertIsNone(read_snapshot(cells + (draw.randint(0, 255),)))
            self.assertIsNone(read_snapshot((draw.randint(0, 255),) + cells))

    def test_each_beginning(self):
        draw = random.Random(74)
        for _ in range(40):
            cells = snapshot_cells(some_book(draw))
            for end in range(len(cells)):
                self.assertIsNone(read_snapshot(cells[:end]))

    def test_cells_of_no_book(self):
        first = (items_record((ONE, TWO)), seal(4, 2))
        self.assertIsNotNone(read_snapshot(first[0] + first[1]))
        eight = tuple((key, (0,), ()) for key in range(8))
        nine = eight + ((8, (0,), ()),)
        for cells in ((), first[0], first[1], first[1] + first[0], first[0] + first[1] + first[1],
                      items_record((TWO, ONE)) + seal(4, 2), items_record((ONE, ONE)) + seal(4, 2),
                      items_record((ONE, ONE)) + seal(4, 1), items_record((ONE, (1, (5, 5), ()))) + seal(4, 1),
                      items_record((ONE,)) + items_record((TWO,)) + seal(4, 2), items_record(()) + seal(4, 0),
                      first[0] + items_record(()) + seal(4, 2), first[0] + seal(4, 1), first[0] + seal(4, 3),
                      items_record(nine) + seal(4, 9), items_record(eight[:7]) + items_record(nine[7:]) + seal(4, 9),
                      seal(4, 0, ((3, 0, ()), (3, 0, ()))), seal(4, 0, ((3, 0, ()), (2, 0, ()))),
                      seal(4, 0, (), ((3, 0, ()), (3, 0, ()))), seal(4, 0, (), ((3, 0, ()), (2, 0, ()))),
                      framed((9, 4, 0, 0, 0)), framed((7, 4, 0, 0, 0)), framed((8, 4, 0, 0)), framed((8, 4, 0, 0, 0, 0)),
                      framed((8,)), framed(()), framed((8, 128, 0, 0, 0, 0)), framed((6, 1) + item_cells(ONE)) + seal(4, 1),
                      framed((8, 1) + item_cells(ONE)) + seal(4, 1), framed((7, 1) + item_cells(ONE) + (0,)) + seal(4, 1),
                      framed((8, 4, 0, 255, 255, 255, 255, 255, 1)), framed((7, 255, 255, 255, 1)) + seal(4, 0),
                      (128,) * 9, (0,), (5, 8, 4, 0, 0, 0, 9), (255, 1)):
            self.assertIsNone(read_snapshot(cells), cells)
        self.assertIsNotNone(read_snapshot(items_record(eight) + items_record(nine[8:]) + seal(4, 9)))

    def test_changed_cells(self):
        draw = random.Random(75)
        for _ in range(30):
            cells = snapshot_cells(some_book(draw, 5))
            for at in range(len(cells)):
                other = cells[:at] + (draw.randint(0, 255),) + cells[at + 1:]
                book = read_snapshot(other)
                self.assertTrue(book is None or snapshot_cells(book) == other)

    def test_any_cells(self):
        draw = random.Random(76)
        for _ in range(2000):
            cells = tuple(draw.choice((0, 1, 2, 3, 7, 8, 128, 255)) for _ in range(draw.randint(0, 12)))
            for some in (cells, framed(cells), framed((7,) + cells) + framed((8,) + cells), framed((8,) + cells)):
                book = self.unchanged(read_snapshot, some)
                self.assertTrue(book is None or snapshot_cells(book) == some)


if __name__ == "__main__":
    unittest.main()
