"""The names of the files of a shard."""

from nonearer.basics import DIGITS, LETTERS, is_numeral, is_word_of, lot_of
from nonearer.errors import Refused

LONGEST_SHARD_NAME = 8
MOST_DIGITS = 6
NEW = ".new"


def check_shard_name(value):
    """Raises an error for any value that is no shard name."""
    if not is_word_of(value, LETTERS + DIGITS, LONGEST_SHARD_NAME):
        raise Refused("name")


def log_file(name, number):
    """Returns the name of a log of a shard."""
    return f"{name}.l{number}"


def snapshot_file(name, number):
    """Returns the name of a snapshot of a shard."""
    return f"{name}.s{number}"


def number_behind(text, start):
    """Returns the number whose digits are all that a text has behind a start, `None` if there is none."""
    digits = text[len(start):]
    return int(digits) if text.startswith(start) and is_numeral(digits, MOST_DIGITS) else None


def numbers_behind(texts, start):
    """Returns the lot of the numbers that some texts have behind a start."""
    numbers = [number_behind(text, start) for text in texts]
    return lot_of([number for number in numbers if number is not None])


def shard_files(names, name):
    """Returns the lots of the numbers of a shard's snapshots and logs, and of its names with `.new`."""
    starts = (name + ".s", name + ".l")
    bare = [file[:-len(NEW)] for file in names if file.endswith(NEW)]
    new = [text + NEW for text in bare if any([number_behind(text, start) is not None for start in starts])]
    return numbers_behind(names, starts[0]), numbers_behind(names, starts[1]), lot_of(new)
