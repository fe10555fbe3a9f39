"""Boards: many standing questions at once."""

from nonearer.basics import is_number
from nonearer.distances import distance, reaches
from nonearer.errors import InvalidNumber
from nonearer.questions import deed_key
from nonearer.standing import Standing


class Board:
    """Standing questions by their numbers."""

    def __init__(self, *, spare=0):
        self.spare = spare
        self._standing = {}
        self._asked = 0
        self._marks = {}

    def _check_number(self, number):
        if not is_number(number) or number not in self._standing:
            raise InvalidNumber("number")

    def ask(self, state, question):
        """Puts a question on the board, filled from a state, and returns its number."""
        number = self._asked
        self._standing[number] = Standing(state, question, spare=self.spare)
        self._marks.setdefault(question[0], question[1])
        self._asked += 1
        return number

    def leave(self, number):
        """Takes the question with a number away."""
        self._check_number(number)
        del self._standing[number]

    def numbers(self):
        """Returns the lot of the numbers of the questions."""
        return tuple(sorted(self._standing))

    def answers(self):
        """Returns a dict with the answers by the numbers of their questions."""
        return {number: self._standing[number].answer() for number in self.numbers()}

    def answer_to(self, number):
        """Returns the answer to the question with a number."""
        self._check_number(number)
        return self._standing[number].answer()

    def refill_count(self):
        """Returns how often the questions that are there have been filled since they were asked."""
        return sum([one.refills() for one in self._standing.values()])

    def touched(self, deed):
        """Returns the lot of the numbers of the questions to which a deed matters."""
        return tuple([number for number in self.numbers() if self._standing[number].matters(deed)])

    def told(self, deed, state):
        """Tells a deed to the questions to which it matters, and returns `(number, gone, new)` for changed answers."""
        changes = []
        for number in self.touched(deed):
            gone, new = self._standing[number].told(deed, state)
            if len(gone) + len(new) > 0:
                changes.append((number, gone, new))
        return tuple(changes)

    def _may_make(self, one, deed):
        """Returns whether, by the distances from the mark alone, a deed could make a pair for a standing question."""
        if deed[0] == "take":
            return False
        if one.limit() is None:
            return True
        kind, vector, _, _ = one.question
        mark = self._marks[kind]
        from_mark = distance(kind, deed[1][1], mark)
        return reaches(kind, from_mark, distance(kind, vector, mark), one.limit()[0])

    def candidates(self, deed):
        """Returns the lot of the numbers of the questions to which a deed may matter, as far as the marks tell."""
        key = deed_key(deed)
        found = []
        for number in self.numbers():
            one = self._standing[number]
            if key in [pair[1] for pair in one.kept()] or self._may_make(one, deed):
                found.append(number)
        return tuple(found)
