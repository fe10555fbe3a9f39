"""A queue that gives its least entry first."""

from heapq import heapify, heappop, heappush

from nonearer.errors import Refused


class Queue:
    """Entries that Python compares, of which the least one is taken first."""

    def __init__(self, entries):
        self._heap = list(entries)
        heapify(self._heap)

    def how_many(self):
        """Returns the number of entries."""
        return len(self._heap)

    def put(self, entry):
        """Puts an entry in."""
        heappush(self._heap, entry)

    def first(self):
        """Returns the least entry."""
        if len(self._heap) == 0:
            raise Refused("empty")
        return self._heap[0]

    def take(self):
        """Returns the least entry and takes it out."""
        if len(self._heap) == 0:
            raise Refused("empty")
        return heappop(self._heap)

    def listed(self):
        """Returns all entries, ascending."""
        return tuple(sorted(self._heap))

    def take_all(self):
        """Returns all entries, ascending, and takes them out."""
        entries = self.listed()
        self._heap = []
        return entries
