"""Numbers, names, items, deeds and entries as cells, integers from 0 to 255, and back."""

from nonearer.basics import LETTERS, is_rising

# The number of a word of an entry about a move is its index here, behind the numbers of takes and puts.
MOVE_WORDS = ("come", "gone", "here", "drop", "done")
TAKE = 0
PUT = 1
FIRST_MOVE_WORD = 2
LONGEST_NAME = 8


def number_cells(number):
    """Returns the cells of a number: its digits to the base 128, the least one first."""
    cells = []
    while number >= 128:
        cells.append(number % 128 + 128)
        number = number // 128
    cells.append(number)
    return tuple(cells)


def integer_cells(integer):
    """Returns the cells of an integer."""
    if integer < 0:
        return number_cells(-2 * integer - 1)
    return number_cells(2 * integer)


def name_cells(name):
    """Returns the cells of a name: its length and the indices of its letters."""
    return (len(name),) + tuple([LETTERS.index(letter) for letter in name])


def joined_cells(parts):
    """Returns the cells of some parts behind one another."""
    return tuple([cell for part in parts for cell in part])


def counted_cells(parts):
    """Returns the cells of the number of some parts, and of these."""
    return number_cells(len(parts)) + joined_cells(parts)


def label_cells(label):
    """Returns the cells of a pair of a name and an integer."""
    return name_cells(label[0]) + integer_cells(label[1])


def item_cells(item):
    """Returns the cells of an item."""
    key, vector, labels = item
    places = counted_cells([integer_cells(integer) for integer in vector])
    return number_cells(key) + places + counted_cells([label_cells(label) for label in labels])


def deed_cells(deed):
    """Returns the cells of a put or a take."""
    if deed[0] == "put":
        return (PUT,) + item_cells(deed[1])
    return (TAKE,) + number_cells(deed[1])


def entry_cells(entry):
    """Returns the cells of an entry of a log."""
    word = entry[0]
    if word == "deed":
        return deed_cells(entry[1])
    head = (FIRST_MOVE_WORD + MOVE_WORDS.index(word),) + number_cells(entry[1])
    if word == "come":
        return head + number_cells(entry[2]) + counted_cells([item_cells(item) for item in entry[3]])
    if word == "gone":
        return head + number_cells(entry[2]) + counted_cells([number_cells(key) for key in entry[3]])
    return head


def read_number(cells, at):
    """Returns the number whose cells begin at an index, and the index behind them, or `None`."""
    last = at
    while last < len(cells) and cells[last] >= 128:
        last += 1
    # A greatest digit of 0 would be a second way to write a number.
    if last >= len(cells) or (last > at and cells[last] == 0):
        return None
    number = 0
    for place in range(last, at - 1, -1):
        number = number * 128 + cells[place] % 128
    return number, last + 1


def read_integer(cells, at):
    """Returns the integer whose cells begin at an index, and the index behind them, or `None`."""
    found = read_number(cells, at)
    if found is None:
        return None
    number, behind = found
    if number % 2 == 1:
        return -((number + 1) // 2), behind
    return number // 2, behind


def read_name(cells, at):
    """Returns the name whose cells begin at an index, and the index behind them, or `None`."""
    if at >= len(cells) or not 1 <= cells[at] <= LONGEST_NAME:
        return None
    behind = at + 1 + cells[at]
    letters = cells[at + 1:behind]
    if behind > len(cells) or any([letter >= len(LETTERS) for letter in letters]):
        return None
    return "".join([LETTERS[letter] for letter in letters]), behind


def read_parts(cells, at, readers):
    """Returns the tuple of what several readers read behind one another, and the index behind, or `None`."""
    values = []
    for reader in readers:
        found = reader(cells, at)
        if found is None:
            return None
        value, at = found
        values.append(value)
    return tuple(values), at


def read_counted(cells, at, reader):
    """Returns the tuple of as many values as a number in front of them says, and the index behind, or `None`."""
    found = read_number(cells, at)
    if found is None:
        return None
    many, at = found
    # Each value takes a cell at least; a count that cannot be true may be too great for a tuple.
    if many > len(cells) - at:
        return None
    return read_parts(cells, at, (reader,) * many)


def read_vector(cells, at):
    """Returns the vector whose cells begin at an index, and the index behind them, or `None`."""
    return read_counted(cells, at, read_integer)


def read_label(cells, at):
    """Returns the label whose cells begin at an index, and the index behind them, or `None`."""
    return read_parts(cells, at, (read_name, read_integer))


def read_labels(cells, at):
    """Returns the labels of an item whose cells begin at an index, and the index behind them, or `None`."""
    found = read_counted(cells, at, read_label)
    if found is None or not is_rising([label[0] for label in found[0]]):
        return None
    return found


def read_item(cells, at):
    """Returns the item whose cells begin at an index, and the index behind them, or `None`."""
    return read_parts(cells, at, (read_number, read_vector, read_labels))


def read_items(cells, at):
    """Returns the items whose cells begin at an index, and the index behind them, or `None`."""
    return read_counted(cells, at, read_item)


def read_keys(cells, at):
    """Returns the keys whose cells begin at an index, and the index behind them, or `None`."""
    return read_counted(cells, at, read_number)


def read_whole(cells, at, readers):
    """Returns the tuple of what several readers read of all cells from an index on, or `None`."""
    found = read_parts(cells, at, readers)
    if found is None or found[1] != len(cells):
        return None
    return found[0]


def read_deed(cells):
    """Returns the deed that has just these cells, or `None`."""
    if len(cells) == 0 or cells[0] not in (TAKE, PUT):
        return None
    if cells[0] == PUT:
        parts, word = read_whole(cells, 1, (read_item,)), "put"
    else:
        parts, word = read_whole(cells, 1, (read_number,)), "take"
    return None if parts is None else (word,) + parts


def move_readers(word):
    """Returns the readers of what follows the word of an entry about a move."""
    if word == "come":
        return read_number, read_number, read_items
    if word == "gone":
        return read_number, read_number, read_keys
    return (read_number,)


def read_entry(cells):
    """Returns the entry that has just these cells, or `None`."""
    deed = read_deed(cells)
    if deed is not None:
        return "deed", deed
    if len(cells) == 0 or not 0 <= cells[0] - FIRST_MOVE_WORD < len(MOVE_WORDS):
        return None
    word = MOVE_WORDS[cells[0] - FIRST_MOVE_WORD]
    parts = read_whole(cells, 1, move_readers(word))
    return None if parts is None else (word,) + parts
