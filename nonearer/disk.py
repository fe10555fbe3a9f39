"""A disk in memory that knows which of its cells and names would surely outlast a cut."""

from nonearer.basics import DIGITS, LETTERS, is_int, is_word_of, lot_of
from nonearer.errors import Refused

LONGEST_FILE_NAME = 20


def is_file_name(value):
    """Returns whether any value is a file name."""
    return is_word_of(value, LETTERS + DIGITS + ".", LONGEST_FILE_NAME)


def are_cells(value):
    """Returns whether any value is a tuple of cells."""
    return isinstance(value, tuple) and all([is_int(cell) and 0 <= cell <= 255 for cell in value])


def changed_names(names, change):
    """Returns a dict from names to files behind one change: of a file, from an old name to a new one."""
    number, old, new = change
    left = {name: names[name] for name in names if name != old}
    if new is not None:
        left[new] = number
    return left


class Disk:
    """Files that are changed by six calls.

    Each file has a number of its own, as it may lose its name and yet come back by a cut.
    """

    def __init__(self, files):
        names = sorted(files)
        self._cells = [list(files[name]) for name in names]
        self._safe_cells = [len(files[name]) for name in names]
        self._names = {name: number for number, name in enumerate(names)}
        self._safe_names = {name: number for number, name in enumerate(names)}
        self._unsafe_changes = []
        self._calls = []

    def _check_there(self, name):
        if not is_file_name(name) or name not in self._names:
            raise Refused("name")

    def _change_names(self, number, old, new):
        change = (number, old, new)
        self._names = changed_names(self._names, change)
        self._unsafe_changes.append(change)

    def make(self, name):
        """Makes an empty file."""
        if not is_file_name(name) or name in self._names:
            raise Refused("name")
        self._change_names(len(self._cells), None, name)
        self._cells.append([])
        self._safe_cells.append(0)
        self._calls.append(("make", name))

    def append(self, name, cells):
        """Puts cells behind those of a file."""
        self._check_there(name)
        if not are_cells(cells):
            raise Refused("cells")
        self._cells[self._names[name]].extend(cells)
        self._calls.append(("append", name, cells))

    def rename(self, name, to):
        """Gives a file another name, in place of a file that has it."""
        self._check_there(name)
        if not is_file_name(to):
            raise Refused("name")
        if name != to:
            self._change_names(self._names[name], name, to)
        self._calls.append(("rename", name, to))

    def remove(self, name):
        """Takes a file away."""
        self._check_there(name)
        self._change_names(self._names[name], name, None)
        self._calls.append(("remove", name))

    def sync(self, name):
        """Makes the present cells of a file safe."""
        self._check_there(name)
        number = self._names[name]
        self._safe_cells[number] = len(self._cells[number])
        self._calls.append(("sync", name))

    def sync_names(self):
        """Makes all changes of names so far safe."""
        self._safe_names = dict(self._names)
        self._unsafe_changes = []
        self._calls.append(("sync_names",))

    def read(self, name):
        """Returns the cells of a file."""
        self._check_there(name)
        return tuple(self._cells[self._names[name]])

    def names(self):
        """Returns the lot of the names of the files."""
        return tuple(sorted(self._names))

    def image(self):
        """Returns the ascending tuple of pairs of a name and the cells of its file."""
        return tuple([(name, self.read(name)) for name in self.names()])

    def calls(self):
        """Returns the tuple of the calls that changed the disk, or what is safe."""
        return tuple(self._calls)

    def unsafe_changes(self):
        """Returns how many changes of names are not safe."""
        return len(self._unsafe_changes)

    def files_behind(self, many):
        """Returns the files that have names when just the first `many` changes that are not safe have been made.

        They are an ascending tuple of triples: the name, all cells, and how many of these are safe.
        """
        names = self._safe_names
        for change in self._unsafe_changes[:many]:
            names = changed_names(names, change)
        files = [(name, names[name]) for name in sorted(names)]
        return tuple([(name, tuple(self._cells[number]), self._safe_cells[number]) for name, number in files])

    def files_behind_each(self):
        """Returns the list of what `files_behind` returns for none, some and all changes, in this sequence."""
        kept = [self._safe_names]
        for change in self._unsafe_changes:
            kept.append(changed_names(kept[-1], change))
        numbers = lot_of([number for names in kept for number in names.values()])
        cells = {number: tuple(self._cells[number]) for number in numbers}
        return [tuple([(name, cells[names[name]], self._safe_cells[names[name]]) for name in sorted(names)])
                for names in kept]
