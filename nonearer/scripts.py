"""Commands of runs, and scripts: texts with a command in each line."""

from nonearer.basics import has_word, is_lot_of_numbers, is_number, is_numeral
from nonearer.errors import InvalidText
from nonearer.printer import show_deed, show_question
from nonearer.questions import is_deed, is_question
from nonearer.reader import read_deeds, read_question

BARE_WORDS = ("sync", "level", "count", "keys")
# How many numbers stand before the keys of a move, and before those of one that is stopped.
BEFORE_KEYS = {"move": 2, "stop": 3}
MOST_STEPS = 7
MOST_DIGITS = 18


def are_numbers(values):
    """Returns whether each of some values is a number."""
    return all([is_number(value) for value in values])


def is_move(word, parts):
    """Returns whether any values are the parts of a move, or of one that is stopped, by the word."""
    if len(parts) != BEFORE_KEYS[word] + 1 or not are_numbers(parts[:-1]):
        return False
    if word == "stop" and parts[0] > MOST_STEPS:
        return False
    return is_lot_of_numbers(parts[-1]) and len(parts[-1]) > 0


def is_command(value, places):
    """Returns whether any value is a command with vectors of so many places."""
    if not has_word(value):
        return False
    word, parts = value[0], value[1:]
    if word in BEFORE_KEYS:
        return is_move(word, parts)
    if word in BARE_WORDS:
        return len(parts) == 0
    if len(parts) != 1:
        return False
    if word == "do":
        return is_deed(parts[0], places)
    if word == "ask":
        return is_question(parts[0], places)
    if word == "cut":
        return isinstance(parts[0], tuple) and are_numbers(parts[0])
    return word == "fold" and is_number(parts[0])


def read_thing(places, line):
    """Returns the command of a line that begins with the word of a deed or a question and a blank, or `None`."""
    word, _, text = line.partition(" ")
    try:
        if word == "ask":
            return "ask", read_question(places, text)
        return "do", read_deeds(places, line)[0]
    except InvalidText:
        return None


def read_numbers(places, line):
    """Returns the command of a line of a word and numerals, or `None`."""
    words = line.split(" ")
    word, numerals = words[0], words[1:]
    if not all([is_numeral(numeral, MOST_DIGITS) for numeral in numerals]):
        return None
    numbers = tuple([int(numeral) for numeral in numerals])
    if word == "cut":
        command = (word, numbers)
    elif word in BEFORE_KEYS:
        before = BEFORE_KEYS[word]
        command = (word,) + numbers[:before] + (numbers[before:],)
    else:
        command = (word,) + numbers
    return command if is_command(command, places) else None


def read_line(places, line):
    """Returns the command of a line, `None` if it is none."""
    if line.startswith("put ") or line.startswith("take ") or line.startswith("ask "):
        return read_thing(places, line)
    return read_numbers(places, line)


def read_script(places, text):
    """Returns the tuple of the commands of a text."""
    if not isinstance(text, str):
        raise InvalidText(-1, -1)
    commands = []
    for number, line in enumerate(text.split("\n")):
        command = read_line(places, line)
        if command is None and line != "":
            raise InvalidText(number, 0)
        if command is not None:
            commands.append(command)
    return tuple(commands)


def show_command(command):
    """Returns the line of a command."""
    word = command[0]
    if word == "do":
        return show_deed(command[1])
    if word == "ask":
        return "ask " + show_question(command[1])
    numbers = command[1:]
    if word == "cut" or word in BEFORE_KEYS:
        numbers = numbers[:-1] + numbers[-1]
    return " ".join([word] + [str(number) for number in numbers])


def show_script(commands):
    """Returns the text of a tuple of commands."""
    return "\n".join([show_command(command) for command in commands])
