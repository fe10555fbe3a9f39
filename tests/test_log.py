"""[70], [71]: records and logs."""

import itertools
import unittest

from helper import Case, odd_values
from nonearer.cells import entry_cells, number_cells
from nonearer.cuts import all_cuts, cut, cut_count, moments, played
from nonearer.disk import Disk
from nonearer.errors import Broken, Refused
from nonearer.log import Log, framed, read_frames, read_records, record_cells

TAKE = ("deed", ("take", 300))
PUT = ("deed", ("put", (5, (-1, 70), (("red", 2),))))
HERE = ("here", 7)
COME = ("come", 3, 1, ((4, (0,), ()), (9, (1,), ())))
GONE = ("gone", 3, 1, (4, 9))
ENTRIES = (TAKE, PUT, HERE, COME, GONE, ("done", 0), ("drop", 1000))


def records_of(entries):
    """Returns the cells of the records of some entries."""
    return tuple(cell for entry in entries for cell in record_cells(entry))


def noted_calls(disk):
    """Returns the calls of a disk that change a file or a name."""
    return [call for call in disk.calls() if call[0] not in ("sync", "sync_names")]


class FramesTest(Case):

    def test_the_example(self):
        self.same(record_cells(TAKE), (3, 0, 172, 2, 99))
        self.same(read_records((3, 0, 172, 2, 99, 3, 0)), ((TAKE,), 5))

    def test_length_body_and_sum(self):
        self.same(framed(()), (0, 0))
        self.same(framed((7,)), (1, 7, 7))
        self.same(framed((250,)), (1, 250, 250))
        self.same(framed((251,)), (1, 251, 0))
        self.same(framed((255, 255)), (2, 255, 255, (255 + 2 * 255) % 251))
        self.same(framed((0, 0, 9)), (3, 0, 0, 9, 27))
        self.same(framed((200,)), (1, 200, 200))
        self.same(framed(body=(0,) * 300), (172, 2) + (0,) * 300 + (0,))
        self.same(record_cells(entry=HERE), framed(entry_cells(HERE)))

    def test_frames_read_again(self):
        bodies = ((), (7,), (0,) * 127, (1,) * 128, (255,) * 300, ())
        cells = tuple(cell for body in bodies for cell in framed(body))
        self.same(read_frames(cells), (bodies, len(cells)))
        self.same(read_frames(()), ((), 0))
        self.same(read_frames(cells=(0, 0)), (((),), 2))

    def test_every_beginning_is_at_most_unfinished(self):
        bodies = ((7,), (3,) * 130, (), (1, 2, 3))
        ends = [0]
        for body in bodies:
            ends.append(ends[-1] + len(framed(body)))
        cells = tuple(cell for body in bodies for cell in framed(body))
        for many in range(len(cells) + 1):
            whole = len([end for end in ends[1:] if end <= many])
            self.same(read_frames(cells[:many]), (bodies[:whole], ends[whole]))

    def test_what_is_unfinished(self):
        for rest in ((), (128,), (255,) * 9, (1,), (1, 5), (5, 1, 2, 3, 4), (0,), (128, 1), (255, 255, 127, 3)):
            self.same(read_frames((1, 7, 7) + rest), (((7,),), 3))

    def test_what_is_broken(self):
        for rest in ((1, 7, 8), (0, 1), (0, 251), (128, 0), (255, 128, 0, 1), (2, 1, 2, 6), (1, 7, 7 + 251), (128, 0, 9),
                     (1, 7, 8, 128)):
            for begin in ((), (1, 7, 7)):
                self.refuses(Broken("record"), read_frames, begin + rest)
                self.refuses(Broken("record"), read_records, begin + rest)
        self.refuses(Broken("record"), read_frames, cells=(0, 1))

    def test_all_short_cells_are_frames_or_broken(self):
        for many in range(6):
            for cells in itertools.product((0, 1, 2, 4, 128), repeat=many):
                try:
                    bodies, taken = read_frames(cells)
                except Broken:
                    continue
                self.same(tuple(cell for body in bodies for cell in framed(body)), cells[:taken])
                rest = cells[taken:]
                if any(cell < 128 for cell in rest):
                    last = [at for at, cell in enumerate(rest) if cell < 128][0]
                    length = sum((cell % 128) * 128 ** at for at, cell in enumerate(rest[:last + 1]))
                    self.same(number_cells(length), rest[:last + 1])
                    self.assertLess(len(rest), last + 1 + length + 1)


class RecordsTest(Case):

    def test_records_read_again(self):
        cells = records_of(ENTRIES)
        self.same(read_records(cells), (ENTRIES, len(cells)))
        self.same(read_records(cells=()), ((), 0))
        for many in range(len(cells) + 1):
            entries, taken = read_records(cells[:many])
            self.same(entries, ENTRIES[:len(entries)])
            self.same(taken, len(records_of(entries)))
            self.assertTrue(len(entries) == len(ENTRIES) or many < taken + len(record_cells(ENTRIES[len(entries)])))

    def test_a_body_that_is_no_entry(self):
        for body in ((), (0,), (7, 0), (0, 128, 0), (0, 5, 5), (4, 128, 0)):
            self.same(read_frames(framed(body)), ((body,), len(framed(body))))
            self.refuses(Broken("record"), read_records, framed(body))
            self.refuses(Broken("record"), read_records, record_cells(TAKE) + framed(body) + record_cells(TAKE))
            self.refuses(Broken("record"), read_records, framed(body) + (9, 9))


class LogTest(Case):

    def check_open(self, log, disk, name, entries):
        """Asserts what holds of a log that was just opened."""
        self.same(log.entries(), entries)
        self.same(log.synced(), len(entries))
        self.same(disk.read(name), records_of(entries))
        self.assertNotIn(name + ".new", disk.names())
        self.same(cut_count(disk), 1)

    def test_the_example(self):
        disk = Disk({"a": (1, 2)})
        log = Log(disk, "log")
        self.assertIsNone(log.write(HERE))
        self.same(log.synced(), 0)
        self.assertIsNone(log.sync())
        self.same(log.synced(), 1)
        self.same(disk.image(), (("a", (1, 2)), ("log", record_cells(HERE))))

    def test_a_log_without_a_file(self):
        disk = Disk({"other": (9,)})
        self.check_open(Log(disk=disk, name="a"), disk, "a", ())
        self.same(disk.image(), (("a", ()), ("other", (9,))))

    def test_a_log_with_records(self):
        disk = Disk({"a": records_of(ENTRIES)})
        self.check_open(Log(disk, "a"), disk, "a", ENTRIES)
        self.same(noted_calls(disk), [])

    def test_unfinished_records_go(self):
        rest = record_cells(PUT)
        for many in range(len(rest)):
            for entries in ((), (TAKE, HERE)):
                disk = Disk({"a": records_of(entries) + rest[:many], "b": (1,)})
                self.check_open(Log(disk, "a"), disk, "a", entries)
                self.same(disk.read("b"), (1,))

    def test_what_is_left_of_another_file_goes(self):
        for files in ({"a.new": (1, 2)}, {"a": (), "a.new": ()}, {"a": record_cells(TAKE) + (3,), "a.new": (0,)}):
            disk = Disk(files)
            entries = (TAKE,) if files.get("a") else ()
            self.check_open(Log(disk, "a"), disk, "a", entries)
            self.same(disk.names(), ("a",))

    def test_other_files_stay(self):
        files = {"a.new.new": (1,), "b": (2,), "b.new": (3,), "a.old": (4,)}
        disk = Disk(files)
        log = Log(disk, "a")
        log.write(PUT)
        log.sync()
        for name in files:
            self.same(disk.read(name), files[name])

    def test_entries_and_what_is_synced(self):
        log = Log(Disk({"a": record_cells(TAKE)}), "a")
        self.same((log.entries(), log.synced()), ((TAKE,), 1))
        log.write(PUT)
        log.write(entry=HERE)
        self.same((log.entries(), log.synced()), ((TAKE, PUT, HERE), 1))
        log.sync()
        self.same((log.entries(), log.synced()), ((TAKE, PUT, HERE), 3))
        log.sync()
        self.same(log.synced(), 3)
        log.write(HERE)
        self.same(log.synced(), 3)

    def test_writing_appends_and_only_syncing_makes_safe(self):
        disk = Disk({})
        log = Log(disk, "a")
        log.write(TAKE)
        log.write(PUT)
        self.same(disk.read("a"), records_of((TAKE, PUT)))
        self.same(cut(disk, (0, 0)).image(), (("a", ()),))
        log.sync()
        self.same(cut(disk, (0, 0)).image(), (("a", records_of((TAKE, PUT))),))

    def test_the_arguments_are_kept(self):
        disk = Disk({})
        log = Log(disk, "a")
        self.assertIs(log.disk, disk)
        self.same(log.name, "a")

    def test_names(self):
        for name in ("a", "z.l0", "a" * 16, ".", "0"):
            disk = Disk({})
            Log(disk, name).write(HERE)
            self.same(disk.names(), (name,))
        for name in odd_values() + ["", "a" * 17, "A", "a b", "a-", ("a",), 5]:
            disk = Disk({"a": (0, 9)})
            self.refuses(Refused("name"), Log, disk, name)
            self.same(disk.calls(), ())

    def test_a_broken_log_changes_nothing(self):
        for cells in ((0, 9), framed((7, 0)), framed(()), record_cells(TAKE) + (128, 0), (1, 7, 8)):
            disk = Disk({"a": cells, "a.new": (1,)})
            self.refuses(Broken("record"), Log, disk, "a")
            self.same(disk.calls(), ())

    def test_two_logs_on_one_disk(self):
        disk = Disk({})
        one, other = Log(disk, "a"), Log(disk, "b")
        one.write(TAKE)
        other.write(PUT)
        other.sync()
        self.same((one.entries(), one.synced()), ((TAKE,), 0))
        left = cut(disk, (0, 0, 0))
        self.same(Log(left, "a").entries(), ())
        self.same(Log(left, "b").entries(), (PUT,))


class CutLogTest(Case):
    """Every cut of small runs, behind every call, and every cut of the openings that follow."""

    def run_on(self, files, script):
        """Runs a script on a disk: openings, writings and syncs of logs.

        Returns the calls, and for each log a list of `(calls, surely safe, entries)` behind each thing done.
        """
        disk = Disk(files)
        logs, told = {}, {}
        for word, name, *rest in script:
            if word == "open":
                logs[name] = Log(disk, name)
            elif word == "write":
                logs[name].write(rest[0])
            else:
                logs[name].sync()
            log = logs[name]
            told.setdefault(name, []).append((len(disk.calls()), log.synced(), log.entries()))
        return disk.calls(), told

    def bounds_at(self, told, many, before):
        """Returns the entries that are surely safe and all entries, when so many calls have been made."""
        safe, entries = before, before
        for calls, synced, present in told:
            if calls <= many:
                safe, entries = present[:synced], present
            else:
                # The call of a thing that is under way may have been made already.
                return safe, present if len(present) > len(entries) else entries
        return safe, entries

    def check_cut_openings(self, image, name, entries, depth):
        """Asserts that openings on an image have just these entries, however often they are cut."""
        disk = Disk(dict(image))
        log = Log(disk, name)
        self.same(log.entries(), entries)
        self.same(disk.read(name), records_of(entries))
        self.same(cut_count(disk), 1)
        self.assertNotIn(name + ".new", disk.names())
        before, calls = disk.image(), len(disk.calls())
        self.same(Log(disk, name).entries(), entries)
        self.same(disk.image(), before)
        self.assertEqual([call[0] in ("sync", "sync_names") for call in disk.calls()[calls:]].count(False), 0)
        if depth > 0:
            for left in moments(dict(image), disk.calls()[:calls]):
                self.check_cut_openings(left, name, entries, depth - 1)

    def check_run(self, files, script, depth):
        """Asserts what [71] says of a run of logs that are cut anywhere."""
        calls, told = self.run_on(files, script)
        before = {name: read_records(files.get(name, ()))[0] for name in told}
        seen = set()
        for many in range(len(calls) + 1):
            for image in all_cuts(played(files, calls[:many])):
                for name in told:
                    safe, entries = self.bounds_at(told[name], many, before[name])
                    found = Log(Disk(dict(image)), name).entries()
                    self.assertEqual(found, entries[:len(found)])
                    self.assertEqual(safe, found[:len(safe)])
                    if (image, name) not in seen:
                        seen.add((image, name))
                        self.check_cut_openings(image, name, found, depth)

    def test_a_new_log(self):
        script = (("open", "a"), ("write", "a", TAKE), ("write", "a", HERE), ("sync", "a"), ("write", "a", TAKE))
        self.check_run({}, script, 2)

    def test_a_log_with_an_unfinished_record(self):
        script = (("open", "a"), ("write", "a", HERE), ("sync", "a"), ("write", "a", TAKE))
        self.check_run({"a": record_cells(TAKE) + record_cells(PUT)[:-2]}, script, 2)
        self.check_run({"a": (200, 255)}, script, 2)

    def test_a_log_with_what_is_left_of_an_opening(self):
        script = (("open", "a"), ("write", "a", HERE))
        cells = record_cells(TAKE) + (3, 0)
        for new in ((), cells[:2], record_cells(TAKE), (9, 9, 9, 9, 9, 9, 9, 9, 9, 9, 9, 9)):
            self.check_run({"a": cells, "a.new": new}, script, 2)
            self.check_run({"a.new": new}, script, 1)

    def test_openings_without_a_cut(self):
        script = (("open", "a"), ("write", "a", TAKE), ("open", "a"), ("write", "a", HERE), ("write", "a", HERE),
                  ("open", "a"), ("sync", "a"), ("open", "a"))
        self.check_run({}, script, 1)
        self.check_run({"a": record_cells(HERE)[:2]}, script, 1)

    def test_several_logs_on_one_disk(self):
        script = (("open", "a"), ("open", "b"), ("write", "b", HERE), ("write", "a", HERE), ("sync", "b"),
                  ("write", "a", ("done", 1)), ("open", "b"))
        self.check_run({"b": (3, 0), "a.new": (1,)}, script, 1)


if __name__ == "__main__":
    unittest.main()
