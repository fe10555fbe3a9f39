"""Texts as marks: words, runs of digits and single signs, with their lines and places."""

from nonearer.basics import DIGITS, LETTERS


def run_end(line, at, signs):
    """Returns the index behind the longest run of some signs from an index of a line on."""
    while at < len(line) and line[at] in signs:
        at += 1
    return at


def mark_end(line, at):
    """Returns the index behind the mark, or the blank, at an index of a line."""
    if line[at] in LETTERS:
        return run_end(line, at, LETTERS)
    if line[at] in DIGITS:
        return run_end(line, at, DIGITS)
    if line[at:at + 2] == "<=":
        return at + 2
    return at + 1


def marks_in_line(number, line):
    """Returns the list of the marks in a line that has a number, without a newline."""
    marks = []
    at = 0
    while at < len(line):
        end = mark_end(line, at)
        if line[at] != " ":
            marks.append((number, at, line[at:end]))
        at = end
    return marks


def marks_of(text):
    """Returns the marks of a text as a tuple of `(line, at, mark)`."""
    marks = []
    lines = text.split("\n")
    for number, line in enumerate(lines):
        marks.extend(marks_in_line(number, line))
        if number + 1 < len(lines):
            marks.append((number, len(line), "\n"))
    return tuple(marks)
