"""Standing questions: answers that are kept up to date, deed by deed."""

from nonearer.filters import passes
from nonearer.pairs import pair_of
from nonearer.plain import nearest, within
from nonearer.questions import deed_key


def made_pair(kind, vector, sieve, deed):
    """Returns the pair that a deed makes: that of the item that it puts, if it passes, otherwise `None`."""
    if deed[0] == "take" or not passes(sieve, deed[1]):
        return None
    return pair_of(kind, vector, deed[1])


def without_key_of(pairs, deed):
    """Returns the list of those of some pairs that do not have the key of a deed."""
    key = deed_key(deed)
    return [pair for pair in pairs if pair[1] != key]


def gone_and_new(before, now):
    """Returns the tuple of the pairs that are gone, and that of those that are new."""
    return tuple([pair for pair in before if pair not in now]), tuple([pair for pair in now if pair not in before])


class Standing:
    """A question that stands, with the first pairs of its answer and some to spare."""

    def __init__(self, state, question, *, spare=0):
        self.question = question
        self.spare = spare
        self._refills = 0
        self._fill(state)

    def _size(self):
        """Returns how many pairs are kept at most."""
        return self.question[2] + self.spare

    def _fill(self, state):
        """Takes the pairs, and the limit, from a state."""
        kind, vector, _, sieve = self.question
        self._kept = nearest(state, (kind, vector, self._size(), sieve))
        self._limit = self._kept[-1] if len(self._kept) == self._size() else None

    def _made(self, deed):
        """Returns the pair that a deed makes, if it is to be kept, otherwise `None`."""
        kind, vector, _, sieve = self.question
        pair = made_pair(kind, vector, sieve, deed)
        if pair is not None and self._limit is not None and pair > self._limit:
            return None
        return pair

    def kept(self):
        """Returns the kept pairs, ascending."""
        return self._kept

    def answer(self):
        """Returns the answer to the question."""
        return self._kept[:self.question[2]]

    def limit(self):
        """Returns the pair above which those of other items lie, `None` if there are none of others."""
        return self._limit

    def refills(self):
        """Returns how often pairs were taken from a state since the first time."""
        return self._refills

    def matters(self, deed):
        """Returns whether a deed changes what is kept."""
        return len(without_key_of(self._kept, deed)) < len(self._kept) or self._made(deed) is not None

    def told(self, deed, state):
        """Takes note of a deed, and returns the pairs of the answer that are gone, and those that are new."""
        before = self.answer()
        if self.matters(deed):
            pair = self._made(deed)
            kept = without_key_of(self._kept, deed) + ([] if pair is None else [pair])
            self._kept = tuple(sorted(kept)[:self._size()])
            if len(kept) > self._size():
                self._limit = self._kept[-1]
            if self._limit is not None and len(self._kept) < self.question[2]:
                self._fill(state)
                self._refills += 1
        return gone_and_new(before, self.answer())


class Nearby:
    """All that passes a filter and lies within a reach of a vector."""

    def __init__(self, state, kind, vector, reach, sieve):
        self.kind = kind
        self.vector = vector
        self.reach = reach
        self.sieve = sieve
        self._kept = within(state, kind, vector, reach, sieve)

    def kept(self):
        """Returns the kept pairs, ascending."""
        return self._kept

    def told(self, deed):
        """Takes note of a deed, and returns the pairs that are gone, and those that are new."""
        before = self._kept
        pair = made_pair(self.kind, self.vector, self.sieve, deed)
        is_near = pair is not None and pair[0] <= self.reach
        self._kept = tuple(sorted(without_key_of(before, deed) + ([pair] if is_near else [])))
        return gone_and_new(before, self._kept)
