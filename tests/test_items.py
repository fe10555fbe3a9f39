"""[2], [12]: items."""

import unittest

from helper import Case, odd_values
from nonearer.errors import InvalidItem
from nonearer.items import check_item, label_of, with_label

ITEM = (7, (3, -4), (("red", 2), ("size", -1)))


class CheckTest(Case):

    def test_items(self):
        for item in (ITEM, (0, (0, 0), ()), (10 ** 20, (-1, 1), (("a", 0), ("abcdefgh", -5), ("b", 9)))):
            self.assertIsNone(check_item(item, 2))
        self.assertIsNone(check_item(value=(1, (), ()), many=0))
        self.assertIsNone(check_item((1, (5,), (("if", 1), ("none", 1))), 1))

    def test_no_tuple_of_three(self):
        for value in odd_values() + ["abc", 3, (), (1, (0, 0)), (1, (0, 0), (), ()), [1, (0, 0), ()]]:
            self.refuses(InvalidItem(-1), check_item, value, 2)

    def test_wrong_keys(self):
        for key in odd_values() + [-1, "1", (1,)]:
            self.refuses(InvalidItem(0), check_item, (key, (0, 0), ()), 2)

    def test_wrong_vectors(self):
        for vector in odd_values() + ["ab", 2, (), (1,), (1, 2, 3), (1, True), (1, 2.0), (None, 1), [1, 2]]:
            self.refuses(InvalidItem(1), check_item, (1, vector, ()), 2)

    def test_wrong_labels(self):
        wrong = [["a", 1], (("a", 1), ("a", 1)), (("a", 1), ("a", 2)), (("b", 1), ("a", 2)), ("a", 1), (("a",),),
                 (("a", 1, 2),), (("A", 1),), (("", 1),), (("abcdefghi", 1),), ((1, "a"),), (("a", True),),
                 (("a", 1.0),), (("a", None),), (["a", 1],), [("a", 1)], "a", 1, ((("a",), 1),), (("a1", 1),),
                 (("a", 1), ("c", 1), ("b", 1)), ("ab",)]
        for labels in odd_values() + wrong:
            self.refuses(InvalidItem(2), check_item, (1, (0, 0), labels), 2)
        for odd in odd_values():
            self.refuses(InvalidItem(2), check_item, (1, (0, 0), (odd,)), 2)
            self.refuses(InvalidItem(2), check_item, (1, (0, 0), ((odd, 1),)), 2)
            self.refuses(InvalidItem(2), check_item, (1, (0, 0), (("a", odd),)), 2)

    def test_the_first_wrong_part_is_named(self):
        self.refuses(InvalidItem(0), check_item, (-1, (0,), None), 2)
        self.refuses(InvalidItem(1), check_item, (1, (0,), None), 2)
        self.refuses(InvalidItem(0), check_item, (None, None, None), 2)
        self.refuses(InvalidItem(-1), check_item, (None, None), 2)


class LabelsTest(Case):

    def test_label_of(self):
        self.same(label_of(ITEM, "red"), 2)
        self.same(label_of(ITEM, "size"), -1)
        self.assertIsNone(label_of(ITEM, "tall"))
        self.assertIsNone(label_of(item=(1, (), ()), name="a"))
        self.same(label_of((1, (), (("a", 0),)), "a"), 0)

    def test_with_label(self):
        self.same(with_label(ITEM, "new", 5), (7, (3, -4), (("new", 5), ("red", 2), ("size", -1))))
        self.same(with_label(ITEM, "tall", 0), (7, (3, -4), (("red", 2), ("size", -1), ("tall", 0))))
        self.same(with_label(ITEM, "red", -9), (7, (3, -4), (("red", -9), ("size", -1))))
        self.same(with_label(ITEM, "red", 2), ITEM)
        self.same(with_label((1, (0,), ()), "a", 3), (1, (0,), (("a", 3),)))

    def test_without_a_label(self):
        self.same(with_label(ITEM, "red", None), (7, (3, -4), (("size", -1),)))
        self.same(with_label(ITEM, "tall", None), ITEM)
        self.same(with_label(item=(1, (), ()), name="a", value=None), (1, (), ()))

    def test_what_is_made_is_an_item_and_has_the_label(self):
        for name in ("a", "red", "size", "tall"):
            for value in (None, 0, -5, 9):
                item = with_label(ITEM, name, value)
                self.assertIsNone(check_item(item, 2))
                self.assertEqual(label_of(item, name), value)
                for other in {"a", "red", "size", "tall"} - {name}:
                    self.assertEqual(label_of(item, other), label_of(ITEM, other))


if __name__ == "__main__":
    unittest.main()
