"""[72]: the files of a shard."""

import unittest

from helper import Case, odd_values
from nonearer.errors import Refused
from nonearer.files import check_shard_name, log_file, shard_files, snapshot_file


class NamesTest(Case):

    def test_shard_names(self):
        for value in ("a", "z9", "0", "s39", "abcdefgh", "12345678"):
            self.assertIsNone(check_shard_name(value))

    def test_no_shard_names(self):
        for value in odd_values() + ["", "abcdefghi", "A", "a.b", "a b", "a\n", "a_", "\u00e4", "\u0663", ("a",), 5]:
            self.refuses(Refused("name"), check_shard_name, value)
        self.refuses(Refused("name"), check_shard_name, value="")

    def test_file_names(self):
        self.same(log_file("east", 0), "east.l0")
        self.same(snapshot_file("east", 12), "east.s12")
        self.same(log_file(name="9", number=1000000), "9.l1000000")
        self.same(snapshot_file(name="9", number=7), "9.s7")


class ShardFilesTest(Case):

    def test_numbers_of_snapshots_logs_and_new_files(self):
        names = ("east.l2", "east.s10", "east.l0", "east.s9", "east.l10", "east.s11.new", "east.l3.new")
        self.same(shard_files(names, "east"), ((9, 10), (0, 2, 10), ("east.l3.new", "east.s11.new")))

    def test_nothing(self):
        self.same(shard_files((), "a"), ((), (), ()))
        self.same(shard_files(("b.l0", "a"), "a"), ((), (), ()))

    def test_other_names_do_not_matter(self):
        names = ("a.l", "a.s", "a.l00", "a.l01", "a.s0000001", "a.l1234567", "a.x1", "a1", "a.l1a", "a.l1.", "a.l1.old",
                 "a.l-1", "al1", "aa.l1", "xa.l1", ".l1", "a..l1", "a.new", "a.l.new", "a.l01.new", "a.l1new",
                 "a.l1.new.new", "aa.l1.new", "new", ".new", "a.l1234567.new", "a.s 1", "a.l1.new1")
        self.same(shard_files(names, "a"), ((), (), ()))

    def test_digits_to_the_limit(self):
        names = ("a.l999999", "a.s100000", "a.s0", "a.l0", "a.l10.new", "a.s0.new")
        self.same(shard_files(names, "a"), ((0, 100000), (0, 999999), ("a.l10.new", "a.s0.new")))

    def test_only_ascii_digits(self):
        self.same(shard_files(("a.l\u0663", "a.s\u00b2"), "a"), ((), (), ()))

    def test_names_that_look_like_words(self):
        self.same(shard_files(names=("s0.l1", "s0.s1", "s01.s2"), name="s0"), ((1,), (1,), ()))
        self.same(shard_files(("l.l1", "s.s1"), "l"), ((), (1,), ()))

    def test_what_is_named_is_found(self):
        for number in (0, 1, 9, 10, 4321, 999999):
            names = (log_file("q7", number), snapshot_file("q7", number), snapshot_file("q7", number) + ".new")
            self.same(shard_files(names, "q7"), ((number,), (number,), (names[2],)))


if __name__ == "__main__":
    unittest.main()
