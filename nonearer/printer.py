"""Showing things as texts, with as few marks as can be."""

CLOSE_BEFORE = (":", ",", ";", ")")
CLOSE_BEHIND = ("-", "!", "(")
SIGNS = {"and": "&", "or": "|"}
# In which filters a filter of these words would be read as a part of the one around it.
PARTED_IN = {"not": ("and", "or"), "and": ("and", "or"), "or": ("or",)}
MOST_STEPS = 1000


def spaced(marks):
    """Returns the line of one or more marks."""
    parts = [marks[0]]
    for before, mark in zip(marks, marks[1:]):
        is_close = mark in CLOSE_BEFORE or before in CLOSE_BEHIND
        parts.append(mark if is_close else " " + mark)
    return "".join(parts)


def joined_marks(lists, mark):
    """Returns the list of the marks of some lists, with a mark between each of these and the next one."""
    marks = []
    for at, some in enumerate(lists):
        marks.extend(some if at == 0 else [mark] + some)
    return marks


def integer_marks(integer):
    """Returns the list of the marks of an integer."""
    return ["-", str(-integer)] if integer < 0 else [str(integer)]


def vector_marks(vector):
    """Returns the list of the marks of a vector."""
    return [mark for integer in vector for mark in integer_marks(integer)]


def item_marks(item):
    """Returns the list of the marks of an item."""
    key, vector, labels = item
    marks = [str(key), ":"] + vector_marks(vector)
    for name, integer in labels:
        marks.extend([",", name] + integer_marks(integer))
    return marks


def deed_marks(deed):
    """Returns the list of the marks of a deed."""
    if deed[0] == "put":
        return ["put"] + item_marks(deed[1])
    return ["take", str(deed[1])]


def inner_marks(word, part):
    """Returns the list of the marks of a filter in a `not`, `and` or `or`."""
    marks = filter_marks(part)
    return ["("] + marks + [")"] if part[0] in PARTED_IN[word] else marks


def filter_marks(sieve):
    """Returns the list of the marks of a filter."""
    word = sieve[0]
    if word == "all":
        return ["*"]
    if word == "has":
        return [sieve[1]]
    if word == "in":
        return integer_marks(sieve[2]) + ["<=", sieve[1], "<="] + integer_marks(sieve[3])
    if word == "not":
        return ["!"] + inner_marks(word, sieve[1])
    return joined_marks([inner_marks(word, part) for part in sieve[1:]], SIGNS[word])


def question_marks(question):
    """Returns the list of the marks of a question."""
    kind, vector, many, sieve = question
    marks = [str(many), "nearest", "to"] + vector_marks(vector) + ["by", kind]
    return marks if sieve == ("all",) else marks + ["if"] + filter_marks(sieve)


def answer_marks(answer):
    """Returns the list of the marks of an answer."""
    if len(answer) == 0:
        return ["none"]
    return joined_marks([[str(key), "at", str(away)] for away, key in answer], ",")


def runs_of(steps):
    """Returns the list of `[word, many]` for the runs of equal steps, each of as many as one numeral can tell."""
    runs = []
    for word in steps:
        if len(runs) > 0 and runs[-1][0] == word and runs[-1][1] < MOST_STEPS:
            runs[-1][1] += 1
        else:
            runs.append([word, 1])
    return runs


def paper_marks(paper):
    """Returns the list of the marks of a paper."""
    marks = answer_marks(paper.answer) + [";"]
    for word, many in runs_of(paper.steps):
        marks.extend([word] if many == 1 else [word, str(many)])
    return marks


def show_item(item):
    """Returns the line of an item."""
    return spaced(item_marks(item))


def show_deed(deed):
    """Returns the line of a deed."""
    return spaced(deed_marks(deed))


def show_state(state):
    """Returns the text of a state, by ascending keys."""
    return "\n".join([show_item(state[key]) for key in sorted(state)])


def show_deeds(deeds):
    """Returns the text of a tuple of deeds."""
    return "\n".join([show_deed(deed) for deed in deeds])


def show_filter(sieve):
    """Returns the text of a filter."""
    return spaced(filter_marks(sieve))


def show_question(question):
    """Returns the text of a question."""
    return spaced(question_marks(question))


def show_answer(answer):
    """Returns the text of an answer."""
    return spaced(answer_marks(answer))


def show_paper(paper):
    """Returns the text of a paper."""
    return spaced(paper_marks(paper))
