"""[69]: cells of things."""

import itertools
import random
import unittest

from helper import Case
from nonearer.cells import (deed_cells, entry_cells, integer_cells, item_cells, name_cells, number_cells, read_deed,
                            read_entry, read_integer, read_item, read_name, read_number)

ITEMS = ((5, (1,), ()), (0, (), ()), (300, (-1, 0, 64), (("a", -2), ("zz", 300))), (1, (0,) * 130, (("abcdefgh", 0),)))
DEEDS = tuple(("put", item) for item in ITEMS) + (("take", 0), ("take", 128), ("take", 10 ** 40))
ENTRIES = tuple(("deed", deed) for deed in DEEDS) + (
    ("come", 2, 0, ITEMS), ("come", 0, 300, ()), ("come", 1, 1, (ITEMS[2], ITEMS[0], ITEMS[0])),
    ("gone", 7, 1, (3, 200)), ("gone", 7, 1, ()), ("gone", 7, 1, (9, 9, 2)), ("here", 0), ("drop", 300), ("done", 127))


def numbers():
    """Returns numbers about the limits of one, two and three digits, and a great one."""
    return [0, 1, 2, 126, 127, 128, 129, 255, 256, 16383, 16384, 16385, 2097151, 2097152, 10 ** 9, 10 ** 60]


class NumbersTest(Case):

    def test_digits_to_the_base_128(self):
        self.same(number_cells(0), (0,))
        self.same(number_cells(1), (1,))
        self.same(number_cells(127), (127,))
        self.same(number_cells(128), (128, 1))
        self.same(number_cells(300), (172, 2))
        self.same(number_cells(16383), (255, 127))
        self.same(number_cells(16384), (128, 128, 1))
        self.same(number_cells(number=2 * 128 ** 3 + 5), (133, 128, 128, 2))

    def test_integers(self):
        self.assertEqual([integer_cells(k) for k in (0, -1, 1, -2, 2)], [(0,), (1,), (2,), (3,), (4,)])
        self.same(integer_cells(-64), (127,))
        self.same(integer_cells(64), (128, 1))
        self.same(integer_cells(integer=-65), (129, 1))

    def test_read_again(self):
        for number in numbers():
            for value, cells, read in ((number, number_cells(number), read_number),
                                       (number, integer_cells(number), read_integer),
                                       (-number, integer_cells(-number), read_integer)):
                self.assertTrue(all(128 <= cell <= 255 for cell in cells[:-1]) and 0 <= cells[-1] < 128)
                self.same(read(cells, 0), (value, len(cells)))
                self.same(read((7, 200) + cells + (9,), 2), (value, len(cells) + 2))
                for end in range(len(cells)):
                    self.assertIsNone(read(cells[:end], 0))

    def test_what_is_no_number(self):
        for cells in ((), (128,), (255, 255), (128, 0), (255, 128, 0), (129, 0, 5)):
            self.assertIsNone(read_number(cells, 0))
            self.assertIsNone(read_integer(cells, 0))
        self.assertIsNone(read_number((5,), 1))
        self.assertIsNone(read_integer(cells=(5,), at=4))
        self.same(read_number(cells=(128, 0), at=1), (0, 2))

    def test_all_short_cells_are_read_as_what_has_them(self):
        for cells in itertools.product((0, 1, 2, 127, 128, 129, 255), repeat=3):
            for read, write in ((read_number, number_cells), (read_integer, integer_cells)):
                found = read(cells, 0)
                if found is None:
                    wanted = [end for end in (1, 2, 3) if cells[end - 1] < 128][:1]
                    self.assertTrue(not wanted or (wanted[0] > 1 and cells[wanted[0] - 1] == 0))
                else:
                    self.assertEqual(write(found[0]), cells[:found[1]])


class NamesTest(Case):

    def test_letters(self):
        self.same(name_cells("a"), (1, 0))
        self.same(name_cells("size"), (4, 18, 8, 25, 4))
        self.same(name_cells(name="abcdefgh"), (8, 0, 1, 2, 3, 4, 5, 6, 7))

    def test_read_again(self):
        for name in ("a", "z", "zebra", "abcdefgh"):
            cells = name_cells(name)
            self.same(read_name(cells, 0), (name, len(cells)))
            self.same(read_name((1,) + cells + (0,), 1), (name, len(cells) + 1))
            for end in range(len(cells)):
                self.assertIsNone(read_name(cells[:end], 0))

    def test_what_is_no_name(self):
        for cells in ((), (0,), (0, 0), (9,) + (0,) * 9, (1, 26), (2, 0, 255), (2, 26, 0), (129, 1) + (0,) * 129):
            self.assertIsNone(read_name(cells, 0))
        self.assertIsNone(read_name(cells=(1, 0), at=2))
        self.assertIsNone(read_name((1, 0), 5))


class ItemsTest(Case):

    def test_parts_behind_one_another(self):
        self.same(item_cells((5, (1,), ())), (5, 1, 2, 0))
        self.same(item_cells((300, (-1, 0), (("a", -2), ("zz", 3)))), (172, 2, 2, 1, 0, 2, 1, 0, 3, 2, 25, 25, 6))
        self.same(item_cells(item=(0, (), ())), (0, 0, 0))

    def test_read_again(self):
        for item in ITEMS:
            cells = item_cells(item)
            self.same(read_item(cells, 0), (item, len(cells)))
            self.same(read_item((200, 3) + cells + (0, 0), 2), (item, len(cells) + 2))
            for end in range(len(cells)):
                self.assertIsNone(read_item(cells[:end], 0))

    def test_labels_that_do_not_ascend(self):
        a, b = (1, 0, 4), (1, 1, 2)
        self.assertIsNotNone(read_item((1, 0, 2) + a + b, 0))
        self.assertIsNone(read_item((1, 0, 2) + b + a, 0))
        self.assertIsNone(read_item((1, 0, 2) + a + a, 0))
        self.assertIsNone(read_item((1, 0, 2) + a + (1, 0, 6), 0))

    def test_what_is_no_item(self):
        for cells in ((), (1,), (128, 0, 0, 0), (1, 128, 0, 0), (1, 1, 128, 0, 0), (1, 0, 1, 0, 2), (1, 0, 1, 1, 26, 2),
                      (1, 255, 255, 255, 255, 127, 0), (1, 0, 255, 255, 127, 0)):
            self.assertIsNone(read_item(cells, 0))
        self.assertIsNone(read_item(cells=(5, 0, 0), at=3))


class DeedsTest(Case):

    def test_puts_and_takes(self):
        self.same(deed_cells(("put", (5, (1,), ()))), (1, 5, 1, 2, 0))
        self.same(deed_cells(deed=("take", 300)), (0, 172, 2))

    def test_read_again(self):
        for deed in DEEDS:
            cells = deed_cells(deed)
            self.same(read_deed(cells), deed)
            for end in range(len(cells)):
                self.assertIsNone(read_deed(cells[:end]))
            for more in (0, 1, 128, 255):
                self.assertIsNone(read_deed(cells + (more,)))

    def test_what_is_no_deed(self):
        for cells in ((), (0,), (1,), (2, 5), (128, 0, 5), (129, 0, 5, 0, 0), (0, 128), (0, 128, 0), (255, 1)):
            self.assertIsNone(read_deed(cells=cells))


class EntriesTest(Case):

    def test_words_and_their_numbers(self):
        item = (5, (1,), ())
        self.same(entry_cells(("deed", ("take", 300))), (0, 172, 2))
        self.same(entry_cells(("deed", ("put", item))), (1, 5, 1, 2, 0))
        self.same(entry_cells(("come", 7, 1, (item, item))), (2, 7, 1, 2, 5, 1, 2, 0, 5, 1, 2, 0))
        self.same(entry_cells(("gone", 7, 300, (9, 128))), (3, 7, 172, 2, 2, 9, 128, 1))
        self.same(entry_cells(("here", 7)), (4, 7))
        self.same(entry_cells(("drop", 128)), (5, 128, 1))
        self.same(entry_cells(entry=("done", 0)), (6, 0))

    def test_read_again(self):
        for entry in ENTRIES:
            cells = entry_cells(entry)
            self.same(read_entry(cells), entry)
            for end in range(len(cells)):
                self.assertIsNone(read_entry(cells[:end]))
            for more in (0, 1, 128, 255):
                self.assertIsNone(read_entry(cells + (more,)))

    def test_what_is_no_entry(self):
        for cells in ((), (7, 0), (8, 1), (130, 0, 5), (132, 0, 5), (255, 5), (4, 128, 0), (2, 1, 1, 1, 5, 1, 2),
                      (3, 1, 1, 2, 5), (3, 1, 1, 0, 5), (4, 1, 1)):
            self.assertIsNone(read_entry(cells=cells))

    def test_all_short_cells_are_read_as_what_has_them(self):
        signs = (0, 1, 2, 3, 4, 26, 128)
        for many in range(6):
            for cells in itertools.product(signs, repeat=many):
                entry = read_entry(cells)
                self.assertTrue(entry is None or entry_cells(entry) == cells)
                deed = read_deed(cells)
                self.assertTrue(deed is None or deed_cells(deed) == cells)
                item = read_item(cells, 0)
                self.assertTrue(item is None or item_cells(item[0]) == cells[:item[1]])

    def test_none_begins_another_one(self):
        draw = random.Random(69)
        found = {}
        for _ in range(400):
            item = (draw.randint(0, 300), tuple(draw.randint(-99, 99) for _ in range(draw.randint(0, 2))),
                    tuple((name, draw.randint(-2, 2)) for name in ("a", "b") if draw.randint(0, 1)))
            found[item_cells(item)] = item
        cells = sorted(found)
        for one, other in zip(cells, cells[1:]):
            self.assertNotEqual(other[:len(one)], one)


if __name__ == "__main__":
    unittest.main()
