"""The errors that the package raises on purpose."""


class StoreError(ValueError):
    """The base of all own errors."""


class InvalidVector(StoreError):
    """A value is no vector: `at` is the index of its first wrong item, or -1."""

    def __init__(self, at):
        self.at = at


class InvalidItem(StoreError):
    """A value is no item: `at` is the index of its first wrong part, or -1."""

    def __init__(self, at):
        self.at = at


class InvalidFilter(StoreError):
    """A value is no filter: `at` is the number of its first wrong part."""

    def __init__(self, at):
        self.at = at


class InvalidQuestion(StoreError):
    """A value is no question: `at` is the index of its first wrong item, or -1."""

    def __init__(self, at):
        self.at = at


class InvalidText(StoreError):
    """A value is no text of the form that is read: `line` and `at` tell the place, or are -1."""

    def __init__(self, line, at):
        self.line = line
        self.at = at


class InvalidPaper(StoreError):
    """A value has no right steps: `at` is the index of the first wrong one, or -1."""

    def __init__(self, at):
        self.at = at


class InvalidNumber(StoreError):
    """A value is not the number that `word` names."""

    def __init__(self, word):
        self.word = word


class Refused(StoreError):
    """What was asked for is not done: `word` names the reason."""

    def __init__(self, word):
        self.word = word


class Broken(StoreError):
    """What a disk has cannot be what was written there: `word` names the part."""

    def __init__(self, word):
        self.word = word
