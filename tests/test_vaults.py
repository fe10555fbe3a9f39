"""[74], [75], [76]: vaults, their snapshots, and what cuts leave of them."""

import random
import unittest

from helper import Case, odd_values, parts_of
from nonearer.cuts import all_cuts, cut, cut_count, moments, played
from nonearer.disk import Disk
from nonearer.errors import Broken, Refused
from nonearer.log import record_cells
from nonearer.moves import Book, book_of, noted
from nonearer.snapshots import snapshot_cells
from nonearer.vaults import Vault

FIVE, SIX = (5, (1,), ()), (6, (1,), ())
PUT, TAKE = ("deed", ("put", FIVE)), ("deed", ("take", 5))
OTHER = ("deed", ("put", SIX))


def records_of(entries):
    """Returns the cells of the records of some entries."""
    return sum((record_cells(entry) for entry in entries), ())


def some_book(*entries):
    """Returns the book of some entries."""
    return book_of(entries)


class OpenTest(Case):

    def check(self, vault, entries, number, files=None):
        """Asserts that a vault that was just opened has the book of some entries, and just these files of the shard."""
        self.assertEqual(parts_of(vault.book()), parts_of(book_of(entries)))
        self.same((vault.number(), vault.written(), vault.synced(), vault.is_begun()), (number, 0, 0, False))
        if files is not None:
            self.same(vault.disk.image(), tuple(sorted(files.items())))
            # Nothing but removals is not safe.
            self.same(cut_count(vault.disk), 1 + vault.disk.unsafe_changes())

    def test_the_example(self):
        disk = Disk({})
        vault = Vault(disk, "a")
        vault.write(("deed", ("put", FIVE)))
        vault.begin()
        vault.write(("deed", ("take", 5)))
        self.same(disk.names(), ("a.l0", "a.l1", "a.s1.new"))
        vault.finish()
        self.same(disk.names(), ("a.l1", "a.s1"))
        self.assertEqual(vault.book().state, {})
        self.same(Vault(disk, "a").number(), 1)

    def test_the_attributes(self):
        disk = Disk({})
        vault = Vault(name="east9", disk=disk)
        self.assertIs(vault.disk, disk)
        self.same(vault.name, "east9")

    def test_what_there_may_be(self):
        five, both = snapshot_cells(some_book(PUT)), snapshot_cells(some_book(PUT, OTHER))
        put, take = records_of((PUT,)), records_of((TAKE,))
        for files, entries, number, left in (
                ({}, (), 0, {"a.l0": ()}),
                ({"a.l0": put}, (PUT,), 0, {"a.l0": put}),
                ({"a.l0": put + take[:2]}, (PUT,), 0, {"a.l0": put}),
                ({"a.l0": put, "a.l1": take}, (PUT, TAKE), 1, {"a.l0": put, "a.l1": take}),
                ({"a.l0": put, "a.l1": take, "a.l2": (3,)}, (PUT, TAKE), 2, {"a.l0": put, "a.l1": take, "a.l2": ()}),
                ({"a.s1": five, "a.l1": ()}, (PUT,), 1, {"a.s1": five, "a.l1": ()}),
                ({"a.s1": five, "a.l1": take, "a.l0": put}, (PUT, TAKE), 1, {"a.s1": five, "a.l1": take}),
                # What has lesser numbers does not matter, whatever it is.
                ({"a.s1": (1, 2), "a.l1": (9,), "a.l0": (0,), "a.s2": five, "a.l2": take, "a.l3": put},
                 (PUT, TAKE, PUT), 3, {"a.s2": five, "a.l2": take, "a.l3": put}),
                ({"a.s7": both, "a.l7": (), "a.l5": (1, 1)}, (PUT, OTHER), 7, {"a.s7": both, "a.l7": ()}),
                ({"a.s0": five, "a.l0": take}, (PUT, TAKE), 0, {"a.s0": five, "a.l0": take}),
                ({"a.s0": five}, (PUT,), 0, {"a.s0": five, "a.l0": ()}),
                ({"a.l0.new": (7,), "a.s1.new": five, "a.s9.new": (), "a.l4.new": (1,)}, (), 0, {"a.l0": ()}),
                ({"a.s999999": five, "a.l999999": take}, (PUT, TAKE), 999999, {"a.s999999": five, "a.l999999": take})):
            self.check(Vault(Disk(files), "a"), entries, number, left)

    def test_other_files_stay(self):
        files = {"b.l0": (1,), "a.log": (2,), "a.s": (3,), "a.l00": (4,), "a.l0.new.new": (5,), "aa.l0.new": (6,), "a.new": (7,),
                 "a.s01": (8,), "a.l1000000": (9,), "b.s3.new": (1,), "a.lx.new": (2,)}
        disk = Disk(files)
        vault = Vault(disk, "a")
        vault.write(PUT)
        vault.fold()
        for name in files:
            self.same(disk.read(name), files[name])
        self.same(vault.number(), 1)

    def test_wrong_names(self):
        for name in odd_values() + ["", "A", "a.b", "abcdefghi", "a b", ("a",), 0, "a-"]:
            disk = Disk({"a.l0": (0, 9)})
            self.refuses(Refused("name"), Vault, disk, name)
            self.same(disk.calls(), ())
        for name in ("0", "abcdefgh", "9z", "s0"):
            self.same(Vault(Disk({}), name).disk.names(), (name + ".l0",))

    def test_what_is_broken(self):
        five, put, take = snapshot_cells(some_book(PUT)), records_of((PUT,)), records_of((TAKE,))
        for files, word in (
                ({"a.s1": five[:-1], "a.l1": ()}, "snapshot"), ({"a.s1": (), "a.l1": ()}, "snapshot"),
                ({"a.s1": five + (0,), "a.l1": ()}, "snapshot"), ({"a.s2": put, "a.s1": five, "a.l1": (), "a.l2": ()}, "snapshot"),
                ({"a.s1": five}, "log"), ({"a.s1": five, "a.l0": put}, "log"), ({"a.s1": five, "a.l2": ()}, "log"),
                ({"a.l1": ()}, "log"), ({"a.l0": (), "a.l2": ()}, "log"), ({"a.s1": five, "a.l1": (), "a.l3": ()}, "log"),
                ({"a.l0": (0, 9)}, "record"), ({"a.l0": put + (0, 9)}, "record"), ({"a.l0": put, "a.l1": (1, 7, 7)}, "record"),
                ({"a.l0": put[:2], "a.l1": ()}, "log"), ({"a.l0": put + (200,), "a.l1": take}, "log"),
                ({"a.l0": records_of((("here", 0),))}, "entry"), ({"a.s1": five, "a.l1": records_of((("done", 0),))}, "entry"),
                ({"a.l0": put, "a.l1": records_of((("gone", 0, 1, (6,)),))}, "entry"),
                ({"a.l0": records_of((("come", 0, 1, ()),))}, "entry")):
            disk = Disk({**files, "a.l0.new": (1,), "b.l0": (2,)})
            image = disk.image()
            self.refuses(Broken(word), Vault, disk, "a")
            self.same((disk.calls(), disk.image()), ((), image))

    def test_the_first_of_several_faults(self):
        five, put = snapshot_cells(some_book(PUT)), records_of((PUT,))
        wrong_entry, wrong_record, unfinished = records_of((("here", 0),)), (0, 9), (3,)
        for files, word in (({"a.s1": five[:-1], "a.l1": wrong_record, "a.l3": ()}, "snapshot"),
                            ({"a.s1": five[:-1]}, "snapshot"),
                            ({"a.l0": wrong_record, "a.l2": ()}, "log"), ({"a.l0": wrong_entry, "a.l2": wrong_record}, "log"),
                            ({"a.l0": wrong_entry, "a.l1": wrong_record}, "record"),
                            ({"a.l0": wrong_entry, "a.l1": unfinished, "a.l2": put}, "log"),
                            ({"a.l0": unfinished, "a.l1": wrong_record}, "log"),
                            ({"a.l0": wrong_record, "a.l1": unfinished, "a.l2": ()}, "record"),
                            ({"a.l0": put, "a.l1": unfinished, "a.l2": wrong_record}, "log"),
                            ({"a.l0": wrong_entry, "a.l1": unfinished}, "entry")):
            self.refuses(Broken(word), Vault, Disk(files), "a")
        self.refuses(Refused("name"), Vault, Disk({"A.l1": ()}), "A")

    def test_all_entries_are_safe_then(self):
        disk = played({}, (("make", "a.l0"), ("append", "a.l0", records_of((PUT, TAKE, PUT)) + (3,))))
        vault = Vault(disk, "a")
        self.same((vault.written(), vault.synced()), (0, 0))
        self.assertEqual(Vault(cut(disk, (0,) * 9), "a").book().state, {5: FIVE})


class WriteTest(Case):

    def test_writing_and_syncing(self):
        disk = Disk({"a.l0": records_of((PUT,))})
        vault = Vault(disk, "a")
        before = vault.book()
        vault.write(entry=TAKE)
        vault.write(OTHER)
        self.assertEqual(parts_of(vault.book()), parts_of(some_book(PUT, TAKE, OTHER)))
        self.assertEqual(before.state, {5: FIVE})
        self.same((vault.written(), vault.synced()), (2, 0))
        self.same(disk.read("a.l0"), records_of((PUT, TAKE, OTHER)))
        self.same(cut(disk, (0, 0)).read("a.l0"), records_of((PUT,)))
        vault.sync()
        self.same((vault.written(), vault.synced()), (2, 2))
        self.same(cut(disk, (0, 0)).read("a.l0"), records_of((PUT, TAKE, OTHER)))
        vault.write(TAKE)
        self.same((vault.written(), vault.synced()), (3, 2))

    def test_what_is_not_right_is_not_written(self):
        vault = Vault(Disk({}), "a")
        vault.write(("come", 4, 1, (FIVE,)))
        vault.write(OTHER)
        before, calls = parts_of(vault.book()), vault.disk.calls()
        for entry in (PUT, TAKE, ("come", 5, 1, (SIX,)), ("come", 5, 1, ()), ("come", 4, 1, ((9, (0,), ()),)),
                      ("gone", 5, 1, (5,)), ("gone", 5, 1, ()), ("here", 5), ("drop", 3), ("done", 4)):
            self.refuses(Refused("entry"), vault.write, entry)
            self.assertEqual(parts_of(vault.book()), before)
            self.same((vault.disk.calls(), vault.written()), (calls, 2))

    def test_each_entry_is_kept(self):
        entries = (PUT, OTHER, ("gone", 3, 1, (5,)), ("come", 4, 2, ((9, (0,), (("a", -1),)),)), ("here", 4), ("done", 3),
                   ("come", 7, 2, ((8, (0,), ()),)), ("drop", 7), ("come", 9, 0, (FIVE,)), ("gone", 10, 1, (6, 9)))
        for folds in range(3):
            disk = Disk({})
            vault = Vault(disk, "a")
            book = book_of(())
            for number, entry in enumerate(entries):
                vault.write(entry)
                book = noted(book, entry)
                if folds and number % (3 - folds) == 0:
                    vault.fold()
                self.assertEqual(parts_of(vault.book()), parts_of(book))
                self.assertEqual(parts_of(Vault(Disk(dict(disk.image())), "a").book()), parts_of(book))


class FoldTest(Case):

    def test_steps_of_a_snapshot(self):
        disk = Disk({})
        vault = Vault(disk, "a")
        items = tuple((key, (key,), ()) for key in range(20))
        for item in items:
            vault.write(("deed", ("put", item)))
        whole = snapshot_cells(vault.book())
        self.same((vault.synced(), vault.is_begun()), (0, False))
        vault.begin()
        self.same((vault.synced(), vault.written(), vault.is_begun(), vault.number()), (20, 20, True, 1))
        self.same((disk.names(), disk.read("a.s1.new"), disk.read("a.l1")), (("a.l0", "a.l1", "a.s1.new"), (), ()))
        vault.write(("deed", ("take", 3)))
        lengths = []
        for left in (True, True, False, False, False):
            self.assertIs(vault.more(), left)
            cells = disk.read("a.s1.new")
            self.same(cells, whole[:len(cells)])
            lengths.append(len(cells))
            vault.write(("deed", ("put", items[3])))
        # Three records of 8, 8 and 4 items; the seal is written by `finish` alone.
        self.same(lengths[2:], [lengths[2]] * 3)
        self.assertTrue(lengths[0] < lengths[1] < lengths[2] < len(whole))
        vault.write(OTHER)
        vault.sync()
        vault.finish()
        self.same((disk.names(), disk.read("a.s1"), vault.is_begun()), (("a.l1", "a.s1"), whole, False))
        self.same((vault.written(), vault.synced()), (27, 27))
        self.assertEqual(Vault(disk, "a").book().state, {**{item[0]: item for item in items}, 6: SIX})

    def test_without_items(self):
        vault = Vault(Disk({}), "a")
        vault.begin()
        self.assertIs(vault.more(), False)
        self.same(vault.disk.read("a.s1.new"), ())
        vault.finish()
        self.same(vault.disk.read("a.s1"), snapshot_cells(Book({}, {}, {}, 0)))

    def test_numbers_of_records(self):
        for many, wanted in ((0, [False]), (1, [False]), (8, [False]), (9, [True, False]), (16, [True, False]),
                             (17, [True, True, False])):
            vault = Vault(Disk({}), "a")
            for key in range(many):
                vault.write(("deed", ("put", (key, (0,), ()))))
            vault.begin()
            self.same([vault.more() for _ in wanted], wanted)
            vault.finish()
            self.assertEqual(len(Vault(vault.disk, "a").book().state), many)

    def test_refusals(self):
        vault = Vault(Disk({}), "a")
        for call in (vault.more, vault.finish):
            self.refuses(Refused("none"), call)
        vault.begin()
        calls = vault.disk.calls()
        for call in (vault.begin, vault.fold):
            self.refuses(Refused("begun"), call)
        self.same((vault.disk.calls(), vault.number()), (calls, 1))
        vault.finish()
        for call in (vault.more, vault.finish):
            self.refuses(Refused("none"), call)
        vault.fold()
        self.same((vault.number(), vault.disk.names()), (2, ("a.l2", "a.s2")))

    def test_the_last_number(self):
        vault = Vault(Disk({"a.s999998": snapshot_cells(some_book(PUT)), "a.l999998": ()}), "a")
        vault.begin()
        self.same(vault.number(), 999999)
        self.refuses(Refused("begun"), vault.begin)
        vault.finish()
        self.same(vault.disk.names(), ("a.l999999", "a.s999999"))
        calls = vault.disk.calls()
        for call in (vault.begin, vault.fold):
            self.refuses(Refused("full"), call)
        self.same((vault.disk.calls(), vault.is_begun(), vault.number()), (calls, False, 999999))
        vault.write(OTHER)
        self.assertEqual(Vault(vault.disk, "a").book().state, {5: FIVE, 6: SIX})

    def test_what_is_removed(self):
        disk = Disk({"a.l0": records_of((PUT,)), "a.l1": records_of((TAKE,)), "a.l2": records_of((OTHER,)), "b.l0": (1,)})
        vault = Vault(disk, "a")
        vault.fold()
        self.same(disk.names(), ("a.l3", "a.s3", "b.l0"))
        vault.fold()
        self.same(disk.names(), ("a.l4", "a.s4", "b.l0"))
        self.assertEqual(Vault(disk, "a").book().state, {6: SIX})

    def test_what_is_safe_behind_a_snapshot(self):
        disk = Disk({})
        vault = Vault(disk, "a")
        vault.write(PUT)
        vault.fold()
        vault.write(OTHER)
        # The names are safe, but for what is removed then.
        left = cut(disk, (0, 0, 0, 0))
        self.same(left.image(), (("a.l0", records_of((PUT,))), ("a.l1", ()), ("a.s1", snapshot_cells(some_book(PUT)))))
        self.same([cut(disk, (many,)).names() for many in (1, 2)], [("a.l1", "a.s1")] * 2)
        self.assertEqual(Vault(left, "a").book().state, {5: FIVE})

    def test_a_snapshot_that_was_begun_is_forgotten(self):
        disk = Disk({})
        vault = Vault(disk, "a")
        vault.write(PUT)
        vault.begin()
        vault.write(OTHER)
        again = Vault(disk, "a")
        self.same((again.is_begun(), again.number(), disk.names()), (False, 1, ("a.l0", "a.l1")))
        self.assertEqual(again.book().state, {5: FIVE, 6: SIX})
        again.fold()
        self.same(disk.names(), ("a.l2", "a.s2"))
        self.assertEqual(Vault(disk, "a").book().state, {5: FIVE, 6: SIX})

    def test_cells_and_when_one_is_due(self):
        vault = Vault(Disk({"b.l0": (1, 2, 3), "a.l9.new": (1,)}), "a")
        self.same((vault.cells(), vault.is_due(room=0)), ((0, 0), False))
        vault.write(PUT)
        size = len(record_cells(PUT))
        self.same(vault.cells(), (0, size))
        for room in (0, size - 1, size, size + 1):
            self.assertIs(vault.is_due(room), size > room)
        vault.begin()
        vault.write(OTHER)
        # While one is being made, the present one is the one before, and all logs from its number on count.
        self.same(vault.cells(), (0, 2 * size))
        vault.finish()
        snapshot = len(snapshot_cells(some_book(PUT)))
        self.same(vault.cells(), (snapshot, size))
        self.assertIs(vault.is_due(0), size > snapshot)
        for _ in range(9):
            vault.write(OTHER)
        self.same(vault.cells(), (snapshot, 10 * size))
        self.same([vault.is_due(room) for room in (0, 10 * size - snapshot - 1, 10 * size - snapshot)], [True, True, False])
        self.same(Vault(vault.disk, "a").cells(), (snapshot, 10 * size))
        # Logs with lesser numbers do not count, wherever they come from.
        vault.disk.make("a.l0")
        vault.disk.append("a.l0", (1, 2, 3))
        self.same(vault.cells(), (snapshot, 10 * size))

    def test_finished_ones_are_not_too_great(self):
        draw = random.Random(76)
        for _ in range(40):
            vault, room = Vault(Disk({}), "a"), draw.choice((16, 16, 20, 50))
            records, snapshots = 0, 0
            for _ in range(draw.randint(1, 120)):
                key = draw.randrange(draw.choice((2, 30)))
                entry = ("deed", draw.choice((("put", (key, (draw.randint(-999, 999),), ())), ("take", key))))
                vault.write(entry)
                records += len(record_cells(entry))
                if not vault.is_begun() and vault.is_due(room):
                    vault.begin()
                if vault.is_begun() and draw.randint(0, 1):
                    vault.finish()
                    snapshots += vault.cells()[0]
            self.assertLessEqual(snapshots, 3 * records)


class CutTest(Case):
    """Every cut of small runs, behind every call, and every cut of the openings that follow."""

    def setUp(self):
        self.seen = set()

    def run_on(self, files, name, script):
        """Runs a script on a disk, and returns its calls and a list of what is surely safe and what there is by then.

        Each row has the number of calls made, the entries that are surely safe and all entries.
        """
        disk = Disk(files)
        vault, start, rows, others = None, (), [], {}
        for word, *rest in script:
            if word == "open":
                start = rows[-1][2] if rows else start
                vault, own = Vault(disk, name), []
            elif word == "other":
                others.setdefault(rest[0], Vault(disk, rest[0])).write(rest[1])
            elif word == "write":
                vault.write(rest[0])
                own.append(rest[0])
            else:
                getattr(vault, word)()
            entries = start + tuple(own)
            rows.append((len(disk.calls()), start + tuple(own[:vault.synced()]), entries))
        return disk.calls(), rows

    def check_openings(self, image, name, book, depth):
        """Asserts that a vault that is opened on an image has a book, however often the opening is cut."""
        if (image, depth) in self.seen:
            return
        self.seen.add((image, depth))
        disk = Disk(dict(image))
        self.assertEqual(parts_of(Vault(disk, name).book()), parts_of(book))
        before, calls = disk.image(), disk.calls()
        self.assertEqual(parts_of(Vault(disk, name).book()), parts_of(book))
        self.same(disk.image(), before)
        if depth > 0:
            for left in moments(dict(image), calls):
                self.check_openings(left, name, book, depth - 1)

    def check_run(self, files, name, script, depth=1):
        """Asserts what [76] says of a run of vaults whose disk is cut behind any call."""
        calls, rows = self.run_on(files, name, script)
        tried = 0
        for many in range(len(calls) + 1):
            # What was surely safe before the thing that is under way, and all that there may be behind it.
            done = [row for row in rows if row[0] <= many]
            safe = done[-1][1] if done else ()
            there = rows[min(len(done), len(rows) - 1)][2]
            books = [parts_of(book_of(there[:end])) for end in range(len(there) + 1)]
            for image in all_cuts(played(files, calls[:many])):
                book = Vault(Disk(dict(image)), name).book()
                self.assertIn(parts_of(book), books[len(safe):])
                self.check_openings(image, name, book, depth)
                tried += 1
        return tried

    def test_writing(self):
        self.check_run({}, "a", (("open",), ("write", PUT), ("write", TAKE), ("sync",), ("write", OTHER)), 2)

    def test_a_snapshot_at_once(self):
        self.check_run({}, "a", (("open",), ("write", PUT), ("fold",), ("write", OTHER), ("fold",), ("write", TAKE)))

    def test_a_snapshot_step_by_step(self):
        tried = self.check_run({}, "a", (("open",), ("write", PUT), ("begin",), ("write", OTHER), ("more",), ("sync",), ("more",),
                                         ("write", TAKE), ("finish",), ("write", ("come", 0, 1, (FIVE,))), ("sync",)))
        self.assertGreater(tried, 200)

    def test_openings_one_behind_another(self):
        self.check_run({}, "a", (("open",), ("write", PUT), ("open",), ("write", OTHER), ("begin",), ("write", TAKE), ("open",),
                                 ("write", PUT), ("fold",), ("open",), ("write", TAKE)))

    def test_what_was_there(self):
        five = snapshot_cells(some_book(PUT))
        script = (("open",), ("fold",), ("open",))
        # The entries that are told begin with those of the start.
        start = {"a.s3": five, "a.l3": records_of((OTHER,)) + (3, 0), "a.l2": (1, 2), "a.s1": (5,), "a.s4.new": five[:4],
                 "a.l3.new": (7,)}
        calls, rows = self.run_on(start, "a", script)
        book = some_book(PUT, OTHER)
        for many in range(len(calls) + 1):
            for image in all_cuts(played(start, calls[:many])):
                self.check_openings(image, "a", book, 1)

    def test_two_shards_on_one_disk(self):
        self.check_run({}, "a", (("open",), ("other", "b", PUT), ("write", PUT), ("other", "b", TAKE), ("begin",),
                                 ("other", "b", OTHER), ("finish",), ("write", TAKE)))


if __name__ == "__main__":
    unittest.main()
