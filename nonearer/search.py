"""Searches: the nearest items first, with as few lots opened as can be."""

from nonearer.lots import lot_at, lots_in, own_keys
from nonearer.pairs import passing_pairs
from nonearer.queue import Queue
from nonearer.regions import ceiling_of, floor_of
from nonearer.summaries import may_pass, must_pass


class Search:
    """A search for the items of an index that pass a filter, by their pairs of distance and key."""

    def __init__(self, index, state, kind, vector, sieve, *, known=None, behind=None):
        self.index = index
        self.state = dict(state)
        self.kind = kind
        self.vector = vector
        self.sieve = sieve
        self.known = known
        self.behind = behind
        self._queue = Queue(())
        self._met = []
        self._opened = {}
        self._pairs = []
        self._meet((), index.lot, 0)

    def _meet(self, path, lot, surrounding):
        """Meets a lot; `surrounding` is the number of the lot that it lies in."""
        self._met.append(path)
        number = max(surrounding, floor_of(self.kind, lot[0], self.vector))
        if may_pass(self.sieve, lot[1]) and self._reaches(lot, number):
            self._queue.put((number, "lot", path))

    def _reaches(self, lot, number):
        """Returns whether a lot with a number may have a pair that is asked for, as far as its region tells."""
        if self.known is not None and number > self.known:
            return False
        return self.behind is None or ceiling_of(self.kind, lot[0], self.vector) >= self.behind[0]

    def _is_asked_for(self, pair):
        """Returns whether a pair of an item that passes is asked for."""
        if self.known is not None and pair[0] > self.known:
            return False
        return self.behind is None or pair > self.behind

    def _enter(self, number, path):
        """Opens a lot that waits."""
        self._opened[path] = True
        lot = lot_at(self.index, path)
        for at, inner in enumerate(lots_in(lot)):
            self._meet(path + (at,), inner, number)
        items = [self.state[key] for key in own_keys(lot)]
        for pair in passing_pairs(self.kind, self.vector, self.sieve, items):
            if self._is_asked_for(pair):
                self._queue.put((pair[0], "pair", pair[1]))

    def step(self):
        """Opens the next lot, or tells the next pair, and returns its entry, `None` if there is none."""
        if self._queue.how_many() == 0:
            return None
        entry = self._queue.take()
        if entry[1] == "lot":
            self._enter(entry[0], entry[2])
        else:
            self._pairs.append((entry[0], entry[2]))
        return entry

    def more(self, many):
        """Tells as many further pairs, or all that are left, and returns these."""
        before = len(self._pairs)
        while len(self._pairs) < before + many and self.step() is not None:
            pass
        return tuple(self._pairs[before:])

    def pairs(self):
        """Returns the pairs told so far."""
        return tuple(self._pairs)

    def bound(self):
        """Returns a number that the distance of no pair that is still to be told is below, `None` if none is left."""
        return None if self._queue.how_many() == 0 else self._queue.first()[0]

    def opened(self):
        """Returns the lot of the paths of opened lots."""
        return tuple(sorted(self._opened))

    def passed(self):
        """Returns the lot of the paths of the lots met and not opened."""
        return tuple(sorted([path for path in self._met if path not in self._opened]))


def told(search, many):
    """Returns as many further pairs of a search, and the lots of the paths that it then has opened and passed."""
    pairs = search.more(many)
    return pairs, search.opened(), search.passed()


def found(index, state, question, *, known=None):
    """Returns the answer to a question, and the lots of the paths opened and passed to find it."""
    kind, vector, many, sieve = question
    return told(Search(index, state, kind, vector, sieve, known=known), many)


def found_within(index, state, kind, vector, reach, sieve):
    """Returns the pairs of all items that pass within a reach, and the lots of the paths opened and passed."""
    search = Search(index, state, kind, vector, sieve, known=reach)
    # No search tells more pairs than there are items.
    return told(search, len(state) + 1)


def found_behind(index, state, question, pair):
    """Returns the first pairs above a pair, as many as asked for, and the lots of the paths opened and passed."""
    kind, vector, many, sieve = question
    return told(Search(index, state, kind, vector, sieve, behind=pair), many)


def counted(index, state, kind, vector, reach, sieve):
    """Returns how many items pass within a reach, and the lot of the paths of the lots opened to see it."""
    many = 0
    paths = []
    waiting = [((), index.lot)]
    while len(waiting) > 0:
        path, lot = waiting.pop()
        region, summary, _ = lot
        if not may_pass(sieve, summary) or floor_of(kind, region, vector) > reach:
            continue
        if must_pass(sieve, summary) and ceiling_of(kind, region, vector) <= reach:
            many += summary[0]
            continue
        paths.append(path)
        waiting.extend([(path + (at,), inner) for at, inner in enumerate(lots_in(lot))])
        pairs = passing_pairs(kind, vector, sieve, [state[key] for key in own_keys(lot)])
        many += len([pair for pair in pairs if pair[0] <= reach])
    return many, tuple(sorted(paths))
