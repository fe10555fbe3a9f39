"""[67], [68]: cuts."""

import itertools
import random
import unittest

from helper import Case
from nonearer.cuts import all_cuts, cut, cut_count, moments, played
from nonearer.disk import Disk
from nonearer.errors import Refused


def left_by_words(files, calls, choice):
    """Returns the image that a cut leaves, found by playing just the changes of names that stay.

    A file is told by the call that made it, so this needs no account of what is safe at each time.
    """
    synced = max([at + 1 for at, call in enumerate(calls) if call == ("sync_names",)], default=0)
    changes = [at for at, call in enumerate(calls)
               if call[0] in ("make", "remove") or (call[0] == "rename" and call[1] != call[2])]
    unsafe = [at for at in changes if at >= synced]
    stay = unsafe[:choice[0]] if choice else unsafe
    kept_names = set([at for at in changes if at < synced] + stay)
    cells, safe = {name: tuple(files[name]) for name in files}, {name: len(files[name]) for name in files}
    now, left = {name: name for name in files}, {name: name for name in files}
    for at, call in enumerate(calls):
        if call[0] == "make":
            cells[at], safe[at] = (), 0
            now[call[1]] = at
            if at in kept_names:
                left[call[1]] = at
        elif call[0] == "append":
            cells[now[call[1]]] += call[2]
        elif call[0] == "sync":
            safe[now[call[1]]] = len(cells[now[call[1]]])
        elif call[0] in ("remove", "rename"):
            for names in (now, left) if at in kept_names else (now,) if at in changes else ():
                file = names.pop(call[1])
                if call[0] == "rename":
                    names[call[2]] = file
    image = []
    for place, name in enumerate(sorted(left)):
        file = left[name]
        more = choice[place + 1] if place + 1 < len(choice) else len(cells[file])
        image.append((name, cells[file][:safe[file] + more]))
    return tuple(image)


def random_calls(draw, many):
    """Returns the files and the calls of a random run on a disk with three names."""
    files = {name: (1,) * draw.randint(0, 2) for name in "ab" if draw.randint(0, 1)}
    disk = Disk(files)
    while len(disk.calls()) < many:
        word = draw.choice(("make", "append", "append", "rename", "remove", "sync", "sync_names"))
        name, to = draw.choice("abc"), draw.choice("abc")
        cells = tuple(draw.randint(0, 9) for _ in range(draw.randint(0, 2)))
        try:
            {"make": lambda: disk.make(name), "append": lambda: disk.append(name, cells),
             "rename": lambda: disk.rename(name, to), "remove": lambda: disk.remove(name),
             "sync": lambda: disk.sync(name), "sync_names": lambda: disk.sync_names()}[word]()
        except Refused:
            pass
    return files, disk


class CutTest(Case):

    def test_the_example(self):
        disk = Disk({"a": (1, 2)})
        disk.append("a", (3,))
        disk.rename("a", "b")
        self.same(all_cuts(disk), ((("a", (1, 2)),), (("a", (1, 2, 3)),), (("b", (1, 2)),), (("b", (1, 2, 3)),)))
        self.same(cut_count(disk), 4)
        self.same(cut(disk, (0, 0)).image(), (("a", (1, 2)),))
        self.same(cut(disk, (1, 0)).image(), (("b", (1, 2)),))
        self.same(cut(disk, (0,)).image(), (("a", (1, 2, 3)),))
        self.same(cut(disk, ()).image(), (("b", (1, 2, 3)),))

    def test_more_than_there_are_and_further_items(self):
        disk = Disk({"a": (1, 2)})
        disk.append("a", (3, 4))
        disk.rename("a", "b")
        self.same(cut(disk, (99, 99)).image(), (("b", (1, 2, 3, 4)),))
        self.same(cut(disk, (1, 1, 0, 0, 0)).image(), (("b", (1, 2, 3)),))
        self.same(cut(disk=disk, choice=(1, 99)).image(), (("b", (1, 2, 3, 4)),))

    def test_a_disk_on_which_all_is_safe(self):
        for files in ({}, {"a": ()}, {"b": (1, 2), "a": (3,)}):
            disk = Disk(files)
            self.same(cut_count(disk), 1)
            self.same(all_cuts(disk), (disk.image(),))
            self.same(cut(disk, (0, 0, 0)).image(), disk.image())

    def test_the_disk_that_is_left_is_new_and_safe(self):
        disk = Disk({"a": (1, 2)})
        disk.append("a", (3,))
        disk.make("b")
        before = disk.image(), disk.calls(), cut_count(disk)
        left = cut(disk, ())
        self.same(left.image(), disk.image())
        self.same(left.calls(), ())
        self.same(cut_count(left), 1)
        left.append("a", (9,))
        left.remove("b")
        self.assertEqual((disk.image(), disk.calls(), cut_count(disk)), before)

    def test_synced_cells_stay_whatever_the_name(self):
        disk = Disk({})
        disk.make("a")
        disk.append("a", (1, 2))
        disk.sync("a")
        disk.append("a", (3,))
        disk.rename("a", "b")
        self.same(all_cuts(disk), ((), (("a", (1, 2)),), (("a", (1, 2, 3)),), (("b", (1, 2)),), (("b", (1, 2, 3)),)))
        disk.sync_names()
        self.same(all_cuts(disk), ((("b", (1, 2)),), (("b", (1, 2, 3)),)))
        disk.sync("b")
        self.same(all_cuts(disk), ((("b", (1, 2, 3)),),))

    def test_a_synced_name_does_not_make_cells_safe(self):
        disk = Disk({})
        disk.make("a")
        disk.append("a", (1,))
        disk.sync_names()
        self.same(all_cuts(disk), ((("a", ()),), (("a", (1,)),)))

    def test_a_file_whose_name_was_taken_comes_back(self):
        disk = Disk({"a": (1,), "b": (2,)})
        disk.append("b", (3,))
        disk.rename("a", "b")
        disk.append("b", (4,))
        self.same(all_cuts(disk), (
            (("a", (1,)), ("b", (2,))), (("a", (1,)), ("b", (2, 3))), (("a", (1, 4)), ("b", (2,))),
            (("a", (1, 4)), ("b", (2, 3))), (("b", (1,)),), (("b", (1, 4)),)))
        self.same(cut(disk, (0, 1, 0)).image(), (("a", (1, 4)), ("b", (2,))))

    def test_a_removed_file_comes_back(self):
        disk = Disk({"a": (1,)})
        disk.remove("a")
        disk.make("a")
        disk.append("a", (5,))
        self.same(all_cuts(disk), ((), (("a", ()),), (("a", (1,)),), (("a", (5,)),)))
        self.same(cut_count(disk), 4)

    def test_a_rename_to_the_same_name_is_no_change_of_names(self):
        disk = Disk({"a": (1,)})
        disk.rename("a", "a")
        self.same(cut_count(disk), 1)

    def test_cuts_that_leave_the_same_count_each(self):
        disk = Disk({})
        disk.make("a")
        disk.remove("a")
        self.same(cut_count(disk), 3)
        self.same(all_cuts(disk), ((), (("a", ()),)))

    def test_random_runs_by_the_words(self):
        draw = random.Random(67)
        for _ in range(150):
            files, disk = random_calls(draw, draw.randint(0, 12))
            calls = disk.calls()
            self.same(played(files, calls).image(), disk.image())
            if cut_count(disk) > 400:
                continue
            wanted, ways = set(), 0
            for many, kept in enumerate(disk.files_behind_each()):
                most = [range(len(cells) - safe + 1) for _, cells, safe in kept]
                for rest in itertools.product(*most):
                    image = left_by_words(files, calls, (many,) + rest)
                    self.same(cut(disk, (many,) + rest).image(), image)
                    wanted.add(image)
                    ways += 1
            self.same(all_cuts(disk), tuple(sorted(wanted)))
            self.same(cut_count(disk), ways)
            self.same(cut(disk, ()).image(), disk.image())
            self.assertEqual(cut(disk, (1,)).image(), left_by_words(files, calls, (1,)))


class AllTest(Case):

    def test_too_many_cuts(self):
        disk = Disk({"a": ()})
        disk.append("a", (0,) * 4999)
        self.same(cut_count(disk), 5000)
        self.assertEqual(len(all_cuts(disk)), 5000)
        disk.append("a", (0,))
        self.same(cut_count(disk), 5001)
        self.refuses(Refused("size"), all_cuts, disk)
        self.same(disk.read("a"), (0,) * 5000)

    def test_great_lots_are_there_once_and_ascend(self):
        calls = (("sync_names",), ("append", "a", (0,) * 48), ("append", "b", (1,) * 100))
        images = moments({"a": (1,), "b": ()}, calls)
        self.assertEqual(len(images), 4949)
        self.same(images, tuple(sorted(set(images))))
        disk = Disk({"a": (1,), "b": ()})
        disk.append("a", (0,) * 49)
        disk.append("b", (0,) * 99)
        self.same(cut_count(disk), 5000)
        images = all_cuts(disk)
        self.assertEqual(len(images), 5000)
        self.same(images, tuple(sorted(set(images))))
        # With a change of names, and one back again, some images are left in two ways.
        disk = Disk({"a": (1,), "b": ()})
        disk.append("a", (0,) * 40)
        disk.append("b", (0,) * 39)
        disk.rename("b", "c")
        disk.rename("c", "b")
        images = all_cuts(disk)
        self.assertEqual((cut_count(disk), len(images)), (3 * 41 * 40, 2 * 41 * 40))
        self.same(images, tuple(sorted(set(images))))

    def test_a_great_count(self):
        disk = Disk({name: () for name in "abcdefghij"})
        for name in disk.names():
            disk.append(name, (0,) * 99)
        self.same(cut_count(disk), 100 ** 10)
        self.refuses(Refused("size"), all_cuts, disk=disk)

    def test_played(self):
        calls = (("make", "c"), ("append", "c", (1,)), ("rename", "c", "d"), ("sync", "d"), ("sync_names",),
                 ("append", "d", (2,)), ("remove", "a"))
        files = {"a": (7,)}
        disk = played(files, calls)
        self.same(disk.calls(), calls)
        self.same(disk.image(), (("d", (1, 2)),))
        self.same(cut_count(disk), 4)
        self.assertEqual(files, {"a": (7,)})
        self.same(played(files={}, calls=()).image(), ())

    def test_moments(self):
        calls = (("append", "a", (1, 2)), ("rename", "a", "b"))
        self.same(moments({"a": ()}, calls), (
            (("a", ()),), (("a", (1,)),), (("a", (1, 2)),), (("b", ()),), (("b", (1,)),), (("b", (1, 2)),)))
        self.same(moments(files={"a": (5,)}, calls=()), ((("a", (5,)),),))
        self.same(moments({}, ()), ((),))

    def test_moments_are_the_cuts_behind_each_call(self):
        draw = random.Random(68)
        for _ in range(60):
            files, disk = random_calls(draw, draw.randint(0, 9))
            calls = disk.calls()
            disks = [played(files, calls[:many]) for many in range(len(calls) + 1)]
            if sum(cut_count(one) for one in disks) <= 5000:
                wanted = sorted({image for one in disks for image in all_cuts(one)})
                self.same(moments(files, calls), tuple(wanted))

    def test_too_many_moments(self):
        syncs = (("sync", "a"),)
        calls = (("append", "a", (0,) * 2499),) + syncs
        self.assertEqual(len(moments({"a": ()}, calls + (("append", "a", (0,) * 2497),))), 4997)
        calls = (("append", "a", (0,) * 2499),) * 1 + syncs + (("append", "a", (0,) * 2497),)
        self.assertEqual(sum(cut_count(played({"a": ()}, calls[:many])) for many in range(4)), 5000)
        self.refuses(Refused("size"), moments, {"a": ()}, calls + syncs)


if __name__ == "__main__":
    unittest.main()
