"""Marks that are taken one after another: to read a text, or to complete one."""

from nonearer.errors import InvalidText
from nonearer.lexer import marks_of


class Marks:
    """The marks of any value as a text, of which each one is taken as soon as it is known to be right.

    Behind the last one the text ends too soon; but if it is to be completed, marks are added that are right there.
    """

    def __init__(self, text, is_completed):
        if not isinstance(text, str):
            raise InvalidText(-1, -1)
        self.text = text
        self.is_completed = is_completed
        self._marks = marks_of(text)
        self._at = 0
        self._added = []

    def first(self):
        """Returns the next mark, `None` behind the last one."""
        return self._marks[self._at][2] if self._at < len(self._marks) else None

    def refuse(self):
        """Raises the error that the text is refused with at the next mark, or behind the last one."""
        if self._at < len(self._marks):
            line, at, _ = self._marks[self._at]
            raise InvalidText(line, at)
        lines = self.text.split("\n")
        raise InvalidText(len(lines) - 1, len(lines[-1]))

    def taken(self, is_right, other):
        """Takes the next mark and returns it, if it is right; behind the last one another mark may be added."""
        mark = self.first()
        if mark is None and self.is_completed:
            self._added.append(other)
            return other
        if mark is None or not is_right:
            self.refuse()
        self._at += 1
        return mark

    def skip(self, mark):
        """Takes the next mark, which is to be this one."""
        self.taken(self.first() == mark, mark)

    def skip_if(self, mark):
        """Takes the next mark if it is this one, and returns whether it is."""
        is_there = self.first() == mark
        if is_there:
            self.skip(mark)
        return is_there

    def end(self):
        """Raises an error if there is a further mark."""
        if self.first() is not None:
            self.refuse()

    def end_line(self):
        """Takes the newline, if the text does not end here."""
        if self.first() is not None:
            self.skip("\n")

    def completed(self):
        """Returns the text with what was added."""
        return self.text + "".join([" " + mark for mark in self._added])
