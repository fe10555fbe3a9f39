"""Logs: files of records that outlast a cut up to some record, every synced one among them."""

from nonearer.cells import entry_cells, number_cells, read_entry, read_number
from nonearer.disk import is_file_name
from nonearer.errors import Broken, Refused

LONGEST_LOG_NAME = 16
CHECK_BASE = 251


def check_cell(body):
    """Returns the cell at the end of a record, by which a wrong body is noticed."""
    return sum([(at + 1) * cell for at, cell in enumerate(body)]) % CHECK_BASE


def framed(body):
    """Returns the cells of a record with a body."""
    return number_cells(len(body)) + body + (check_cell(body),)


def is_unfinished_number(cells):
    """Returns whether some cells are the beginning of those of a number, but no number."""
    return all([cell >= 128 for cell in cells])


def read_frame(cells, at):
    """Returns the body of the record that begins at an index, and the index behind it, `None` if it is unfinished."""
    found = read_number(cells, at)
    if found is None:
        if is_unfinished_number(cells[at:]):
            return None
        raise Broken("record")
    many, start = found
    end = start + many
    if end >= len(cells):
        return None
    body = cells[start:end]
    if cells[end] != check_cell(body):
        raise Broken("record")
    return body, end + 1


def read_frames(cells):
    """Returns the bodies of the whole records with which some cells begin, and how many cells these take."""
    bodies = []
    at = 0
    found = read_frame(cells, at)
    while found is not None:
        body, at = found
        bodies.append(body)
        found = read_frame(cells, at)
    return tuple(bodies), at


def record_cells(entry):
    """Returns the cells of the record of an entry."""
    return framed(entry_cells(entry))


def read_records(cells):
    """Returns the entries of the whole records with which some cells begin, and how many cells these take."""
    bodies, many = read_frames(cells)
    entries = tuple([read_entry(body) for body in bodies])
    if any([entry is None for entry in entries]):
        raise Broken("record")
    return entries, many


def replace_file(disk, name, new, cells):
    """Gives a file other cells, by way of a second file, so that a cut leaves all of the old ones or of these."""
    disk.make(new)
    disk.append(new, cells)
    disk.sync(new)
    disk.rename(new, name)


class Log:
    """A log that is kept in a file of a disk."""

    def __init__(self, disk, name):
        if not is_file_name(name) or len(name) > LONGEST_LOG_NAME:
            raise Refused("name")
        self.disk = disk
        self.name = name
        cells = disk.read(name) if name in disk.names() else ()
        entries, many = read_records(cells)
        self._entries = list(entries)
        self._synced = len(entries)
        self._make_whole(cells, many)

    def _make_whole(self, cells, many):
        """Leaves the file with the cells of its records alone, and all of it safe."""
        names = self.disk.names()
        new = self.name + ".new"
        if new in names:
            self.disk.remove(new)
        if self.name not in names:
            self.disk.make(self.name)
        elif many < len(cells):
            replace_file(self.disk, self.name, new, cells[:many])
        self.disk.sync(self.name)
        self.disk.sync_names()

    def entries(self):
        """Returns the tuple of all entries."""
        return tuple(self._entries)

    def write(self, entry):
        """Writes an entry behind all others."""
        self.disk.append(self.name, record_cells(entry))
        self._entries.append(entry)

    def sync(self):
        """Makes all entries safe."""
        self.disk.sync(self.name)
        self._synced = len(self._entries)

    def synced(self):
        """Returns how many entries were safe when the log was opened or last synced."""
        return self._synced
