"""[66]: disks."""

import unittest

from helper import Case, odd_values
from nonearer.disk import Disk
from nonearer.errors import Refused

NO_NAMES = ["", "A", "a b", "a_", "a-b", "a/b", "a\n", "\u00e4", "\u0663", "a" * 21, ("a",), 5]
NO_CELLS = [[1], "12", 5, (256,), (-1,), (1, True), (1, 2.0), (1, "2"), (None,), ((1,),)]


class DiskTest(Case):

    def setUp(self):
        self.disk = Disk({"b": (1, 2), "a.l0": ()})

    def test_files_at_first(self):
        self.same(self.disk.names(), ("a.l0", "b"))
        self.same(self.disk.read("b"), (1, 2))
        self.same(self.disk.image(), (("a.l0", ()), ("b", (1, 2))))
        self.same(self.disk.calls(), ())
        self.same(Disk({}).image(), ())
        self.same(Disk({}).names(), ())

    def test_make_and_append(self):
        self.assertIsNone(self.disk.make("new"))
        self.same(self.disk.read("new"), ())
        self.assertIsNone(self.disk.append("new", (0, 255)))
        self.assertIsNone(self.disk.append("new", ()))
        self.assertIsNone(self.disk.append("b", (7,)))
        self.same(self.disk.image(), (("a.l0", ()), ("b", (1, 2, 7)), ("new", (0, 255))))

    def test_rename_and_remove(self):
        self.assertIsNone(self.disk.rename("b", "c"))
        self.same(self.disk.image(), (("a.l0", ()), ("c", (1, 2))))
        self.assertIsNone(self.disk.rename("c", "a.l0"))
        self.same(self.disk.image(), (("a.l0", (1, 2)),))
        self.assertIsNone(self.disk.rename("a.l0", "a.l0"))
        self.same(self.disk.image(), (("a.l0", (1, 2)),))
        self.assertIsNone(self.disk.remove("a.l0"))
        self.same(self.disk.image(), ())
        self.disk.make("a.l0")
        self.same(self.disk.image(), (("a.l0", ()),))

    def test_syncs_change_no_file(self):
        before = self.disk.image()
        self.assertIsNone(self.disk.sync("b"))
        self.assertIsNone(self.disk.sync_names())
        self.same(self.disk.image(), before)

    def test_the_calls_are_told(self):
        self.disk.make("c")
        self.disk.append("c", (1,))
        self.disk.rename("c", "d")
        self.disk.rename("d", "d")
        self.disk.sync("d")
        self.disk.sync_names()
        self.disk.remove("d")
        self.disk.read("b"), self.disk.names(), self.disk.image()
        self.refuses(Refused("name"), self.disk.remove, "d")
        self.same(self.disk.calls(), (("make", "c"), ("append", "c", (1,)), ("rename", "c", "d"), ("rename", "d", "d"),
                                      ("sync", "d"), ("sync_names",), ("remove", "d")))

    def test_by_name(self):
        disk = Disk(files={"b": ()})
        disk.make(name="c")
        disk.append(name="c", cells=(4,))
        disk.rename(name="c", to="d")
        disk.remove(name="b")
        disk.sync(name="d")
        self.same(disk.read(name="d"), (4,))

    def test_names_to_the_limit(self):
        for name in ("a" * 20, ".", "..", "0", "9.z", "x.new"):
            self.disk.make(name)
            self.assertIn(name, self.disk.names())
            self.disk.rename("b", name)
            self.disk.rename(name, "b")

    def test_names_that_are_refused(self):
        before, unsafe = self.disk.image(), self.disk.files_behind_each()
        for name in odd_values() + NO_NAMES + ["c"]:
            for call in (self.disk.remove, self.disk.sync, self.disk.read):
                self.refuses(Refused("name"), call, name)
            self.refuses(Refused("name"), self.disk.rename, name, "d")
            self.refuses(Refused("name"), self.disk.append, name, (1,))
        for name in odd_values() + NO_NAMES:
            self.refuses(Refused("name"), self.disk.rename, "b", name)
        for name in odd_values() + NO_NAMES + ["b", "a.l0"]:
            self.refuses(Refused("name"), self.disk.make, name)
        self.same(self.disk.image(), before)
        self.same(self.disk.calls(), ())
        self.same(self.disk.files_behind_each(), unsafe)

    def test_cells_that_are_refused(self):
        for cells in odd_values() + NO_CELLS:
            self.refuses(Refused("cells"), self.disk.append, "b", cells)
            self.refuses(Refused("name"), self.disk.append, "c", cells)
        self.same(self.disk.read("b"), (1, 2))
        self.same(self.disk.calls(), ())

    def test_a_refused_name_of_either_kind(self):
        self.refuses(Refused("name"), self.disk.rename, "c", "A")
        self.refuses(Refused("name"), self.disk.rename, "b", "B")
        self.same(self.disk.names(), ("a.l0", "b"))

    def test_the_argument_is_not_changed_and_does_not_matter_later(self):
        files = {"b": (1,)}
        disk = Disk(files)
        disk.append("b", (2,))
        disk.make("c")
        self.assertEqual(files, {"b": (1,)})
        files["d"] = ()
        files["b"] = (9,)
        self.same(disk.image(), (("b", (1, 2)), ("c", ())))

    def test_equal_files_make_equal_disks(self):
        one, other = Disk({"b": (1,), "a": (2,)}), Disk({"a": (2,), "b": (1,)})
        self.assertEqual(vars(one), vars(other))

    def test_the_files_are_no_attribute(self):
        self.assertFalse(hasattr(self.disk, "files"))

    def test_what_was_returned_does_not_change(self):
        cells, calls, names = self.disk.read("b"), self.disk.calls(), self.disk.names()
        self.disk.append("b", (3,))
        self.disk.make("z")
        self.same((cells, calls, names), ((1, 2), (), ("a.l0", "b")))


if __name__ == "__main__":
    unittest.main()
