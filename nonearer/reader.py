"""Reading things from texts, mark by mark, and completing texts.

Each function that takes marks refuses a mark exactly if no text of the form begins with the marks up to it: the marks
that it names beside a check are what a text may go on with.
"""

from nonearer.basics import LETTERS, is_name, is_numeral
from nonearer.distances import KINDS, is_kind
from nonearer.errors import Refused
from nonearer.marks import Marks
from nonearer.papers import Paper

MOST_STEPS = 1000
STEP_WORDS = ("empty", "barred", "far", "open")


def is_numeral_mark(mark):
    """Returns whether a mark, or `None`, is a numeral, of any length."""
    return mark is not None and is_numeral(mark, len(mark))


def number_in(marks, least, most):
    """Returns the number of the numeral that comes next, from `least` to `most`, if this is not `None`."""
    mark = marks.first()
    is_right = is_numeral_mark(mark) and int(mark) >= least and (most is None or int(mark) <= most)
    return int(marks.taken(is_right, str(least)))


def new_number_in(marks, there):
    """Returns the number of the numeral that comes next, which is none of those that are there."""
    mark = marks.first()
    is_right = is_numeral_mark(mark) and int(mark) not in there
    return int(marks.taken(is_right, str(max(there, default=-1) + 1)))


def integer_in(marks):
    """Returns the integer that comes next."""
    if marks.skip_if("-"):
        return -number_in(marks, 0, None)
    return number_in(marks, 0, None)


def integer_from(marks, least):
    """Returns the integer that comes next, which is `least` at least."""
    if least <= 0 and marks.skip_if("-"):
        return -number_in(marks, 0, -least)
    return number_in(marks, max(least, 0), None)


def vector_in(marks, places):
    """Returns the vector that comes next."""
    return tuple([integer_in(marks) for _ in range(places)])


def word_of(number):
    """Returns the name that has a number among all words of letters, the shorter ones first."""
    letters = []
    while number >= 0:
        letters.append(LETTERS[number % 26])
        number = number // 26 - 1
    return "".join(letters)


def new_name_in(marks, there):
    """Returns the name that comes next, which is none of those that are there."""
    mark = marks.first()
    others = [word_of(number) for number in range(len(there) + 1)]
    other = [word for word in others if word not in there][0]
    return marks.taken(mark is not None and is_name(mark) and mark not in there, other)


def labels_in(marks):
    """Returns the labels that come next."""
    labels = {}
    while marks.skip_if(","):
        name = new_name_in(marks, labels)
        labels[name] = integer_in(marks)
    return tuple([(name, labels[name]) for name in sorted(labels)])


def item_in(marks, places, there):
    """Returns the item that comes next, whose key is none of those that are there."""
    key = new_number_in(marks, there)
    marks.skip(":")
    return key, vector_in(marks, places), labels_in(marks)


def deed_in(marks, places):
    """Returns the deed that comes next."""
    if marks.skip_if("put"):
        return "put", item_in(marks, places, ())
    marks.skip("take")
    return "take", number_in(marks, 0, None)


def skip_empty_lines(marks):
    """Takes the newlines that come next."""
    while marks.skip_if("\n"):
        pass


def state_in(marks, places):
    """Returns the state that the marks tell."""
    state = {}
    skip_empty_lines(marks)
    while marks.first() is not None:
        item = item_in(marks, places, state)
        state[item[0]] = item
        marks.end_line()
        skip_empty_lines(marks)
    return state


def deeds_in(marks, places):
    """Returns the deeds that the marks tell."""
    deeds = []
    skip_empty_lines(marks)
    while marks.first() is not None:
        deeds.append(deed_in(marks, places))
        marks.end_line()
        skip_empty_lines(marks)
    return tuple(deeds)


def single_in(marks):
    """Returns the filter that comes next and has no filters: `*`, a name, or a range."""
    mark = marks.first()
    if mark is None or mark == "*":
        marks.skip("*")
        return ("all",)
    if is_name(mark):
        return "has", marks.taken(True, mark)
    low = integer_in(marks)
    marks.skip("<=")
    name = new_name_in(marks, ())
    marks.skip("<=")
    return "in", name, low, integer_from(marks, low)


def new_frame():
    """Returns what is known of the filter in a pair of parentheses: the parts between `|`, those between `&` behind
    the last of these, and how many `!` stand before the next part."""
    return {"terms": [], "factors": [], "nots": 0}


def joined(word, parts):
    """Returns the filter that a list of parts between signs makes, a single one as it is."""
    return parts[0] if len(parts) == 1 else (word,) + tuple(parts)


def end_term(frame):
    """Puts what stands before a `|`, or at an end, among the parts between these."""
    frame["terms"].append(joined("and", frame["factors"]))
    frame["factors"] = []


def put_part(frame, part):
    """Puts a part into a frame, behind the `!` before it."""
    for _ in range(frame["nots"]):
        part = ("not", part)
    frame["factors"].append(part)
    frame["nots"] = 0


def enter_part(marks, frames):
    """Takes what stands before a part, and the part if it is a single one; each parenthesis adds a frame."""
    while marks.first() in ("!", "("):
        if marks.skip_if("!"):
            frames[-1]["nots"] += 1
        else:
            marks.skip("(")
            frames.append(new_frame())
    put_part(frames[-1], single_in(marks))


def is_part_next(marks, frames):
    """Takes what stands behind a part, up to where another part begins, and returns whether one does."""
    while not marks.skip_if("&"):
        end_term(frames[-1])
        if marks.skip_if("|"):
            return True
        if len(frames) == 1:
            return False
        marks.skip(")")
        part = joined("or", frames.pop()["terms"])
        put_part(frames[-1], part)
    return True


def filter_in(marks):
    """Returns the filter that comes next.

    Open parentheses are kept in a list of frames, as there may be more of them than calls can be in one another.
    """
    frames = [new_frame()]
    enter_part(marks, frames)
    while is_part_next(marks, frames):
        enter_part(marks, frames)
    return joined("or", frames[0]["terms"])


def whole_filter_in(marks, _):
    """Returns the filter that all marks tell; it does not matter how many places vectors have."""
    sieve = filter_in(marks)
    marks.end()
    return sieve


def question_in(marks, places):
    """Returns the question that all marks tell."""
    many = number_in(marks, 1, None)
    marks.skip("nearest")
    marks.skip("to")
    vector = vector_in(marks, places)
    marks.skip("by")
    mark = marks.first()
    kind = marks.taken(is_kind(mark), KINDS[0])
    sieve = filter_in(marks) if marks.skip_if("if") else ("all",)
    marks.end()
    return kind, vector, many, sieve


def pair_in(marks, last, there):
    """Returns the pair that comes next, above the last one, `None` for none, and with a key that is not there."""
    key = new_number_in(marks, there)
    marks.skip("at")
    least = 0
    if last is not None:
        least = last[0] if key > last[1] else last[0] + 1
    return number_in(marks, least, None), key


def answer_in(marks):
    """Returns the answer that comes next."""
    if marks.skip_if("none"):
        return ()
    pairs = [pair_in(marks, None, {})]
    there = {pairs[0][1]: True}
    while marks.skip_if(","):
        pairs.append(pair_in(marks, pairs[-1], there))
        there[pairs[-1][1]] = True
    return tuple(pairs)


def whole_answer_in(marks, _):
    """Returns the answer that all marks tell; it does not matter how many places vectors have."""
    answer = answer_in(marks)
    marks.end()
    return answer


def paper_in(marks, _):
    """Returns the paper that all marks tell; it does not matter how many places vectors have."""
    answer = answer_in(marks)
    marks.skip(";")
    steps = []
    while marks.first() is not None:
        mark = marks.first()
        word = marks.taken(mark in STEP_WORDS, mark)
        mark = marks.first()
        many = number_in(marks, 1, MOST_STEPS) if is_numeral_mark(mark) else 1
        steps.extend([word] * many)
    return Paper(answer, tuple(steps))


FORMS = {"state": state_in, "deeds": deeds_in, "filter": whole_filter_in, "question": question_in,
         "answer": whole_answer_in, "paper": paper_in}


def read_state(places, text):
    """Returns the state of a text."""
    return state_in(Marks(text, False), places)


def read_deeds(places, text):
    """Returns the tuple of the deeds of a text."""
    return deeds_in(Marks(text, False), places)


def read_filter(text):
    """Returns the filter of a text."""
    return whole_filter_in(Marks(text, False), 0)


def read_question(places, text):
    """Returns the question of a text."""
    return question_in(Marks(text, False), places)


def read_answer(text):
    """Returns the answer of a text."""
    return whole_answer_in(Marks(text, False), 0)


def read_paper(text):
    """Returns the paper of a text."""
    return paper_in(Marks(text, False), 0)


def completed(form, places, text):
    """Returns a text of a form that begins with any value, and whose marks begin with the marks of this."""
    if not isinstance(form, str) or form not in FORMS:
        raise Refused("form")
    marks = Marks(text, True)
    reader = FORMS[form]
    reader(marks, places)
    return marks.completed()
