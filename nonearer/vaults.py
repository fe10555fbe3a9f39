"""Vaults: the logs and snapshots of a shard, which outlast cuts."""

from nonearer.errors import Broken, Refused
from nonearer.files import check_shard_name, log_file, shard_files, snapshot_file
from nonearer.log import Log, read_records
from nonearer.moves import empty_book, noted
from nonearer.snapshots import item_records, read_snapshot, seal_record

MOST_NUMBER = 999999


def book_of_snapshot(disk, name, numbers):
    """Returns the book of the snapshot with the last one of some numbers, the empty book if there are none."""
    if len(numbers) == 0:
        return empty_book()
    book = read_snapshot(disk.read(snapshot_file(name, numbers[-1])))
    if book is None:
        raise Broken("snapshot")
    return book


def checked_logs(start, numbers):
    """Returns the lot of the numbers of the logs from a number on, of which none may lack."""
    logs = [number for number in numbers if number >= start]
    if start == 0 and len(logs) == 0:
        return (0,)
    if len(logs) == 0 or logs != list(range(start, start + len(logs))):
        raise Broken("log")
    return tuple(logs)


def entries_of_logs(disk, name, logs):
    """Returns the list of the entries of some logs, of which the last one alone may be unfinished, or lack."""
    entries = []
    for number in logs:
        file = log_file(name, number)
        cells = disk.read(file) if file in disk.names() else ()
        some, many = read_records(cells)
        if many < len(cells) and number != logs[-1]:
            raise Broken("log")
        entries.extend(some)
    return entries


def book_behind(book, entries):
    """Returns the book behind some entries of logs."""
    try:
        for entry in entries:
            book = noted(book, entry)
    except Refused:
        raise Broken("entry") from None
    return book


def remove_lesser(disk, name, number):
    """Removes the snapshots and logs of a shard with lesser numbers."""
    snapshots, logs, _ = shard_files(disk.names(), name)
    for lesser in snapshots:
        if lesser < number:
            disk.remove(snapshot_file(name, lesser))
    for lesser in logs:
        if lesser < number:
            disk.remove(log_file(name, lesser))


class Vault:
    """The book of a shard, kept in files of a disk."""

    def __init__(self, disk, name):
        check_shard_name(name)
        snapshots, logs, new = shard_files(disk.names(), name)
        book = book_of_snapshot(disk, name, snapshots)
        start = snapshots[-1] if len(snapshots) > 0 else 0
        numbers = checked_logs(start, logs)
        self.disk = disk
        self.name = name
        self._book = book_behind(book, entries_of_logs(disk, name, numbers))
        self._number = numbers[-1]
        self._log = Log(disk, log_file(name, self._number))
        self._written = 0
        self._synced = 0
        self._left = None
        remove_lesser(disk, name, start)
        for file in new:
            if file in disk.names():
                disk.remove(file)

    def book(self):
        """Returns the present book."""
        return self._book

    def number(self):
        """Returns the number of the last log."""
        return self._number

    def write(self, entry):
        """Writes an entry behind all others."""
        self._book = noted(self._book, entry)
        self._log.write(entry)
        self._written += 1

    def sync(self):
        """Makes all entries safe."""
        self._log.sync()
        self._synced = self._written

    def written(self):
        """Returns how many entries were written since the opening."""
        return self._written

    def synced(self):
        """Returns how many of the entries that were written since the opening are surely safe."""
        return self._synced

    def _new_file(self):
        """Returns the name of the file in which a snapshot is being made."""
        return snapshot_file(self.name, self._number) + ".new"

    def _check_begun(self):
        if not self.is_begun():
            raise Refused("none")

    def begin(self):
        """Begins to make a snapshot of the present book."""
        if self.is_begun():
            raise Refused("begun")
        if self._number + 1 > MOST_NUMBER:
            raise Refused("full")
        self.sync()
        self._number += 1
        self._log = Log(self.disk, log_file(self.name, self._number))
        self.disk.make(self._new_file())
        self._left = item_records(self._book) + [seal_record(self._book)]

    def _append_next(self):
        """Appends the next one of the records that are left of a snapshot."""
        self.disk.append(self._new_file(), self._left[0])
        self._left = self._left[1:]

    def more(self):
        """Appends the next record of items of a snapshot, if there is one, and returns whether some are left."""
        self._check_begun()
        if len(self._left) > 1:
            self._append_next()
        return len(self._left) > 1

    def finish(self):
        """Makes the snapshot that was begun, and removes what it makes needless."""
        self._check_begun()
        while len(self._left) > 0:
            self._append_next()
        new = self._new_file()
        self.disk.sync(new)
        self.disk.rename(new, snapshot_file(self.name, self._number))
        self.disk.sync_names()
        self._left = None
        remove_lesser(self.disk, self.name, self._number)

    def is_begun(self):
        """Returns whether a snapshot is being made."""
        return self._left is not None

    def fold(self):
        """Makes a snapshot at once."""
        self.begin()
        self.finish()

    def cells(self):
        """Returns how many cells the present snapshot has, and how many the logs from its number on have."""
        snapshots, logs, _ = shard_files(self.disk.names(), self.name)
        start = snapshots[-1] if len(snapshots) > 0 else 0
        counts = [len(self.disk.read(log_file(self.name, number))) for number in logs if number >= start]
        if len(snapshots) == 0:
            return 0, sum(counts)
        return len(self.disk.read(snapshot_file(self.name, start))), sum(counts)

    def is_due(self, room):
        """Returns whether the logs have more cells than the present snapshot and some room."""
        snapshot, logs = self.cells()
        return logs > snapshot + room
