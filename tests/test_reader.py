"""[18], [19], [20], [21], [22], as far as they tell what is read, refused and completed."""

import itertools
import random
import re
import unittest

from helper import ALL, KINDS, WORDS, Case, odd_values, some_filter, some_state, some_vector
from nonearer.errors import InvalidText, Refused
from nonearer.lexer import marks_of
from nonearer.papers import Paper
from nonearer.printer import show_answer, show_deeds, show_filter, show_paper, show_question, show_state
from nonearer.reader import completed, read_answer, read_deeds, read_filter, read_paper, read_question, read_state

A, B, C = ("has", "a"), ("has", "b"), ("has", "c")
FORMS = ("state", "deeds", "filter", "question", "answer", "paper")
NUMERAL = "(0|[1-9][0-9]*)"
INTEGER = "(- )?" + NUMERAL


def read_form(form, places, text):
    """Reads a text of a form."""
    return {"state": lambda: read_state(places, text), "deeds": lambda: read_deeds(places, text),
            "filter": lambda: read_filter(text), "question": lambda: read_question(places, text),
            "answer": lambda: read_answer(text), "paper": lambda: read_paper(text)}[form]()


def names_and_numerals(line):
    """Returns the lists of the words and of the numerals of a line of marks with blanks between them."""
    return re.findall("[a-z]+", line), re.findall("[0-9]+", line)


def is_item(line, places):
    """Returns whether marks with blanks between them are the line of an item."""
    name = "(?!(?:[a-z]{9}))[a-z]+"
    if not re.fullmatch(f"{NUMERAL} :( {INTEGER}){{{places}}}( , {name} {INTEGER})*", line):
        return False
    names = names_and_numerals(line)[0]
    return len(set(names)) == len(names)


def is_deed(line, places):
    """Returns whether marks with blanks between them are the line of a deed."""
    return bool(re.fullmatch("take " + NUMERAL, line)) or (line.startswith("put ") and is_item(line[4:], places))


def is_filter(line):
    """Returns whether marks with blanks between them are the text of a filter: parts are replaced until one is left."""
    for found in re.finditer(f"({INTEGER}) <= [a-z]{{1,8}} <= ({INTEGER})", line):
        low, high = found.group(1).replace(" ", ""), found.group(4).replace(" ", "")
        if int(low) > int(high):
            return False
    line = re.sub(f"{INTEGER} <= [a-z]{{1,8}} <= {INTEGER}(?![0-9])", "P", line)
    line = re.sub("(?<![a-z])[a-z]{1,8}(?![a-z])", "P", line).replace("*", "P")
    before = None
    while line != before:
        before = line
        line = re.sub("! P|[(] P [)]|P & P|P [|] P", "P", line)
    return line == "P"


def is_answer(line):
    """Returns whether marks with blanks between them are the text of an answer."""
    if not re.fullmatch(f"none|{NUMERAL} at {NUMERAL}( , {NUMERAL} at {NUMERAL})*", line):
        return False
    numbers = [int(numeral) for numeral in names_and_numerals(line)[1]]
    pairs = list(zip(numbers[1::2], numbers[::2]))
    return len(set(numbers[::2])) == len(pairs) and pairs == sorted(pairs)


def is_question(line, places):
    """Returns whether marks with blanks between them are the text of a question."""
    kinds = "|".join(KINDS)
    found = re.fullmatch(f"([1-9][0-9]*) nearest to( {INTEGER}){{{places}}} by ({kinds})(?P<rest>.*)", line)
    return bool(found) and (not found["rest"] or (found["rest"].startswith(" if ") and is_filter(found["rest"][4:])))


def is_paper(line):
    """Returns whether marks with blanks between them are the text of a paper."""
    answer, sign, steps = line.partition(" ;")
    word = "(%s)" % "|".join(WORDS)
    return bool(sign and is_answer(answer) and re.fullmatch(f"( {word}( ([1-9][0-9]?[0-9]?|1000))?)*", steps))


def is_text(form, places, text):
    """Returns whether a text is one of a form, as chapter 5 says."""
    lines = [" ".join(mark for line, _, mark in marks_of(text) if line == number and mark != "\n")
             for number in range(text.count("\n") + 1)]
    if form in ("state", "deeds"):
        lines = [line for line in lines if line]
        keys = [line.split(" ")[0] for line in lines]
        if form == "deeds":
            return all(is_deed(line, places) for line in lines)
        return all(is_item(line, places) for line in lines) and len(set(keys)) == len(keys)
    check = {"filter": is_filter, "answer": is_answer, "paper": is_paper,
             "question": lambda line: is_question(line, places)}[form]
    return len(lines) == 1 and check(lines[0])


class ReadTest(Case):

    def test_states(self):
        self.assertEqual(read_state(places=2, text="7: 3 -4, size -1, red 2"),
                         {7: (7, (3, -4), (("red", 2), ("size", -1)))})
        for text in ("", "\n", "  \n\n ", "\n\n\n"):
            self.assertEqual(read_state(3, text), {})
        state = read_state(1, "\n 9:1\n\n   \n2 : -  3 ,a 0,b -0\n")
        self.assertEqual(state, {9: (9, (1,), ()), 2: (2, (-3,), (("a", 0), ("b", 0)))})
        self.assertEqual(list(read_state(1, "5: 0\n3: 0\n4: 0")), [5, 3, 4])
        self.assertEqual(read_state(3, "0:1-2 3"), {0: (0, (1, -2, 3), ())})

    def test_deeds(self):
        self.same(read_deeds(2, "put 7: 3 -4, size -1, red 2\n\ntake 12"),
                  (("put", (7, (3, -4), (("red", 2), ("size", -1)))), ("take", 12)))
        self.same(read_deeds(places=1, text=""), ())
        self.same(read_deeds(1, "take1\nput1:1\ntake 1\ntake 1\nput 1: 2"),
                  (("take", 1), ("put", (1, (1,), ())), ("take", 1), ("take", 1), ("put", (1, (2,), ()))))
        self.same(read_deeds(1, "put 1: 2, put 3, take 4"), (("put", (1, (2,), (("put", 3), ("take", 4)))),))

    def test_filters(self):
        for text, sieve in (("*", ALL), ("a", A), ("3 <= size <= 5", ("in", "size", 3, 5)), ("3<=size<=5", ("in", "size", 3, 5)),
                            ("- 3 <= a <= - 3", ("in", "a", -3, -3)), ("-0<=a<=-0", ("in", "a", 0, 0)),
                            ("!red & (-1 <= size <= 4 | *)", ("and", ("not", ("has", "red")), ("or", ("in", "size", -1, 4), ALL))),
                            ("a & b & c", ("and", A, B, C)), ("a & (b & c)", ("and", A, ("and", B, C))),
                            ("(a & b) & c", ("and", ("and", A, B), C)), ("a | b | c", ("or", A, B, C)),
                            ("a|(b|c)", ("or", A, ("or", B, C))), ("a | b & c", ("or", A, ("and", B, C))),
                            ("a & b | c", ("or", ("and", A, B), C)), ("!a & b", ("and", ("not", A), B)),
                            ("!(a & b)", ("not", ("and", A, B))), ("!!!a", ("not", ("not", ("not", A)))),
                            ("((a))", A), ("((a & b))", ("and", A, B)), ("!((a)) | (b)", ("or", ("not", A), B)),
                            ("!a & !!b | !c", ("or", ("and", ("not", A), ("not", ("not", B))), ("not", C))),
                            ("!(!a | b) & !c", ("and", ("not", ("or", ("not", A), B)), ("not", C))),
                            ("(a) & (b) & (c)", ("and", A, B, C)), ("!1 <= a <= 2", ("not", ("in", "a", 1, 2))),
                            ("if & none | nearest", ("or", ("and", ("has", "if"), ("has", "none")), ("has", "nearest"))),
                            ("a & a", ("and", A, A)), ("abcdefgh", ("has", "abcdefgh"))):
            self.same(read_filter(text=text), sieve)

    def test_questions(self):
        for text, question in (("3 nearest to 0 -5 by sum if (tall)", ("sum", (0, -5), 3, ("has", "tall"))),
                               ("1nearest to 1-2by most", ("most", (1, -2), 1, ALL)),
                               ("400 nearest to 0 0 by unlike if *", ("unlike", (0, 0), 400, ALL)),
                               ("2 nearest to 0 0 by square if if", ("square", (0, 0), 2, ("has", "if")))):
            self.same(read_question(places=2, text=text), question)

    def test_answers_and_papers(self):
        for text, answer in (("none", ()), ("7 at 25, 2 at 30", ((25, 7), (30, 2))), (" 0at0 ,1at0", ((0, 0), (0, 1))),
                             ("5 at 3, 6 at 3, 1 at 4", ((3, 5), (3, 6), (4, 1)))):
            self.same(read_answer(text=text), answer)
            paper = read_paper(text + ";")
            self.same((paper.answer, paper.steps), (answer, ()))
        paper = read_paper(text="7 at 25, 2 at 30; open 2 far far 9")
        self.assertIs(paper.__class__, Paper)
        self.same((paper.answer, paper.steps), (((25, 7), (30, 2)), ("open",) * 2 + ("far",) * 10))
        paper = read_paper("none;empty 1 barred 1000 far1")
        self.same((paper.answer, paper.steps), ((), ("empty",) + ("barred",) * 1000 + ("far",)))

    def test_long_numerals(self):
        long = "9" * 4000
        self.assertEqual(list(read_state(1, long + ": -" + long)), [int(long)])
        self.same(read_filter("-" + long + " <= a <= " + long), ("in", "a", -int(long), int(long)))
        for form, text in (("filter", long + "<= a <="), ("answer", "1 at " + long + ", 2 at"), ("answer", long + " at 1, "),
                           ("filter", "-" + long + "<= a <="), ("question", long)):
            self.assertTrue(is_text(form, 1, completed(form, 1, text)))

    def test_many_parentheses(self):
        self.same(read_filter("(" * 60 + "a" + ")" * 60), A)
        self.same(read_filter("!(" * 20 + "a" + ")" * 20), read_filter("!" * 20 + "a"))
        text = "a"
        for _ in range(60):
            text = "(" + text + " & b)"
        sieve = read_filter(text)
        for _ in range(60):
            self.same(sieve[::2], ("and", B))
            sieve = sieve[1]
        self.same(sieve, A)
        self.refuses(InvalidText(0, 60), read_filter, "(" * 60 + ")")
        self.same(completed("filter", 1, "(" * 60), "(" * 60 + " *" + " )" * 60)


class RefusedTest(Case):

    def check(self, form, places, *rows):
        """Asserts that texts of a form are refused at `(line, at)`, and completed unless they end there too soon."""
        for text, line, at in rows:
            self.refuses(InvalidText(line, at), read_form, form, places, text)
            lines = text.split("\n")
            if (line, at) != (len(lines) - 1, len(lines[-1])):
                self.refuses(InvalidText(line, at), completed, form, places, text)
            else:
                self.assertTrue(is_text(form, places, completed(form, places, text)))

    def test_any_value(self):
        for value in odd_values() + [("7: 1",), 7, ["7: 1"]]:
            for form in FORMS:
                self.refuses(InvalidText(-1, -1), read_form, form, 1, value)
                self.refuses(InvalidText(-1, -1), completed, form, 1, value)
            self.refuses(Refused("form"), completed, value, 1, value)
            self.refuses(Refused("form"), completed, value, 1, "\n\n?")
        for form in ("", "State", "states", ("state",), "item"):
            self.refuses(Refused("form"), completed, form, 1, None)

    def test_states(self):
        self.check("state", 2, ("x", 0, 0), ("-1: 0 0", 0, 0), ("07: 0 0", 0, 0), ("7 0 0", 0, 2), ("7: 0\n", 0, 4),
                   ("7: 0 0 0", 0, 7), ("7: 0 -0 -0", 0, 8), ("7: 0 00", 0, 5), ("7: 0 0, a", 0, 9), ("7: 0 0, a 1 2", 0, 12),
                   ("7: 0 0, a 1, a 2", 0, 13), ("7: 0 0, abcdefghi 2", 0, 8), ("7: 0 0,", 0, 7), ("7: 0 0, 3 4", 0, 8),
                   ("7: 0 0, a -", 0, 11), ("7: 0 0, a - -1", 0, 12), ("7: 0 0, a\n", 0, 9), ("7", 0, 1), ("7: ", 0, 3),
                   ("7: 0 0\n\n7: 1 1", 2, 0), ("7: 0 0\n8: 1 1\n8", 2, 0), ("\n \n7: 1 ?", 2, 5), ("7: 0 0\n8:\n", 1, 2),
                   ("7: 1 1 \n 8: 1", 1, 5), ("7: 1 1; 8: 1 1", 0, 6), ("take 7", 0, 0), ("7: 1 \t1", 0, 5), ("7:: 1 1", 0, 2),
                   ("7: 0 0, A 1", 0, 8), ("7: 0 0,, a 1", 0, 7), ("7: 0 0 <= 1", 0, 7), ("none", 0, 0), ("7: 1.5 2", 0, 4))
        self.assertEqual(len(read_state(2, "7: 0 0\n77: 0 0\n0: 0 0")), 3)

    def test_deeds(self):
        self.check("deeds", 1, ("7: 1", 0, 0), ("take", 0, 4), ("take\n", 0, 4), ("take -1", 0, 5), ("take 1 2", 0, 7),
                   ("take 1\ntake 01", 1, 5), ("put", 0, 3), ("put 7", 0, 5), ("put 7 1", 0, 6), ("put 7: 1 1", 0, 9),
                   ("put take 7", 0, 4), ("puts 7: 1", 0, 0), ("Take 7", 0, 0), ("take 1, a 2", 0, 6), ("put 7: 1, a 1, a 1", 0, 15),
                   ("take 1 take 2", 0, 7), ("\n\ntake x", 2, 5), ("put 7: 1\nput 7: -\n", 1, 8))

    def test_filters(self):
        self.check("filter", 1, ("", 0, 0), ("  ", 0, 2), ("\n", 0, 0), ("a\n", 0, 1), ("a b", 0, 2), ("a &", 0, 3), ("& a", 0, 0),
                   ("a && b", 0, 3), ("a & | b", 0, 4), ("!", 0, 1), ("a !b", 0, 2), ("()", 0, 1), ("(a", 0, 2), ("a)", 0, 1),
                   ("(a))", 0, 3), ("(a | b", 0, 6), ("((a) & b", 0, 8), ("(a b)", 0, 3), ("abcdefghi", 0, 0), ("3", 0, 1),
                   ("3 <= a", 0, 6), ("3 <= a <= 2", 0, 10), ("3 <= a <= -", 0, 10), ("3 <= a <= -5", 0, 10),
                   ("0 <= a <= -", 0, 11), ("0 <= a <= -1", 0, 11), ("-3 <= a <= -4", 0, 12), ("-3 <= a <= - ", 0, 13),
                   ("-3 <= a <= b", 0, 11), ("3 < a < 5", 0, 2), ("a <= 5", 0, 2), ("3 <= 4", 0, 5), ("3 <= a & b", 0, 7),
                   ("3 <= a <= 5 <= b", 0, 12), ("--3", 0, 1), ("03 <= a <= 5", 0, 0), ("3 <= a <= 05", 0, 10),
                   ("3 <= abcdefghi <= 5", 0, 5), ("3 a", 0, 2), ("A", 0, 0), ("a & B", 0, 4), ("a,b", 0, 1), ("**", 0, 1),
                   ("* a", 0, 2), ("a (b)", 0, 2), ("-", 0, 1), ("- a", 0, 2), ("3 <= * <= 5", 0, 5), ("a\nb", 0, 1),
                   ("a = b", 0, 2), ("3 <= a <= 5 6", 0, 12), ("a & (b | 3 <= c <= 1)", 0, 19))

    def test_questions(self):
        self.check("question", 2, ("", 0, 0), ("0 nearest to 0 0 by sum", 0, 0), ("-1 nearest", 0, 0), ("1", 0, 1),
                   ("01 nearest", 0, 0), ("1 near", 0, 2), ("1 nearest at", 0, 10), ("1 nearest to 0 by", 0, 15),
                   ("1 nearest to 0 0 0", 0, 17), ("1 nearest to 0 0 by", 0, 19), ("1 nearest to 0 0 by much", 0, 20),
                   ("1 nearest to 0 0 by sum if", 0, 26), ("1 nearest to 0 0 by sum for a", 0, 24),
                   ("1 nearest to 0 0 by sum\n", 0, 23), ("1 nearest to 0 0 by sum if\n", 0, 26),
                   ("1 nearest to 0 0 by sum if a b", 0, 29), ("1 nearest to 0 0 by sum if a if b", 0, 29),
                   ("1 nearest to 0 0 by sum if (a", 0, 29), ("nearest", 0, 0), ("1 nearest to - -", 0, 15), ("\n1 nearest", 0, 0))

    def test_answers(self):
        self.check("answer", 1, ("", 0, 0), ("none none", 0, 5), ("none, 1 at 2", 0, 4), ("1", 0, 1), ("1 at", 0, 4),
                   ("1 at 2,", 0, 7), ("1 at 2, none", 0, 8), ("1 at 2 3 at 4", 0, 7), ("1 at 2, 3 at 1", 0, 13),
                   ("3 at 2, 1 at 2", 0, 13), ("3 at 2, 3 at 5", 0, 8), ("3 at 2, 4 at 5, 3", 0, 16), ("1 at -2", 0, 5),
                   ("-1 at 2", 0, 0), ("01 at 2", 0, 0), ("1 at 02", 0, 5), ("1 at 2\n", 0, 6), ("1 to 2", 0, 2),
                   ("1 at 2;", 0, 6), ("1 at 2, 3", 0, 9), ("None", 0, 0))

    def test_papers(self):
        self.check("paper", 1, ("", 0, 0), ("none", 0, 4), ("1 at 2", 0, 6), ("none open", 0, 5), ("none; open 0", 0, 11),
                   ("none; open 1001", 0, 11), ("none; open 01", 0, 11), ("none; open 2 3", 0, 13), ("none; 2 open", 0, 6),
                   ("none; opened", 0, 6), ("none; open, far", 0, 10), ("none;; far", 0, 5), ("none; far\n", 0, 9),
                   ("1 at 2, 0 at 2; far", 0, 13), ("none; far -1", 0, 10), ("none; none", 0, 6), ("1 at 2,;", 0, 7))


class CompletedTest(Case):

    def check_prefixes(self, form, places, text):
        """Asserts that each beginning of a text, mark by mark, is completed."""
        marks = marks_of(text)
        starts = [sum(len(line) + 1 for line in text.split("\n")[:line]) + at for line, at, _ in marks]
        for start, (_, _, mark) in zip(starts, marks):
            end = start + len(mark)
            longer = self.unchanged(completed, form, places, text[:end])
            self.assertTrue(longer.startswith(text[:end]))
            known = marks_of(text[:end])
            self.assertEqual(marks_of(longer)[:len(known)], known)
            self.assertTrue(is_text(form, places, longer), longer)
            read_form(form, places, longer)
        self.same(completed(form=form, places=places, text=text), text)

    def test_nothing(self):
        for form in FORMS:
            for places in (1, 3):
                for text in ("", "   "):
                    longer = completed(form, places, text)
                    self.assertTrue(longer.startswith(text) and is_text(form, places, longer))

    def test_each_beginning(self):
        draw = random.Random(26)
        for _ in range(60):
            places = draw.randint(1, 3)
            state = some_state(draw, draw.randint(1, 3), places)
            self.check_prefixes("state", places, show_state(state))
            deeds = tuple(draw.choice((("put", item), ("take", item[0]))) for item in state.values())
            self.check_prefixes("deeds", places, "\n\n" + show_deeds(deeds) + "\n")
            sieve = some_filter(draw, 4)
            self.check_prefixes("filter", places, show_filter(sieve))
            self.check_prefixes("question", places, show_question((draw.choice(KINDS), some_vector(draw, places), 3, sieve)))
            answer = tuple(sorted((draw.randint(0, 2), key) for key in draw.sample(range(9), draw.randint(0, 4))))
            self.check_prefixes("answer", places, show_answer(answer))
            self.check_prefixes("paper", places, show_paper(Paper(answer, ("open", "open", "far") * draw.randint(0, 2))))

    def test_names_that_are_taken(self):
        text = "1: 0" + "".join(f", {letter} 0" for letter in "abcdefghijklmnopqrstuvwxyz") + ","
        self.assertTrue(is_text("state", 1, completed("state", 1, text)))
        for letter in "abcdefghij":
            text += f" a{letter} 0,"
        self.assertTrue(is_text("state", 1, completed("state", 1, text)))

    def test_what_comes_next_is_refused_in_time(self):
        # Of a last mark that is refused at the end only `completed` says that it may go on.
        self.same(read_filter(completed("filter", 1, "0 <= size <= -")), ("in", "size", 0, 0))
        self.refuses(InvalidText(0, 13), completed, "filter", 1, "1 <= size <= -")
        self.refuses(InvalidText(0, 1), completed, "filter", 1, "a\n")
        self.refuses(InvalidText(1, 0), completed, "state", 1, "1: 0\n1")


class BruteForceTest(Case):
    """All short texts of some marks: they are read, refused at the first wrong mark, and completed, as the words say."""

    def check_all(self, form, words, most, ends):
        """Tries all texts of at most so many of some marks; `ends` more marks are enough to see that some go on."""
        texts = [" ".join(marks).replace(" \n ", "\n") for many in range(most + ends + 1)
                 for marks in itertools.product(words, repeat=many)]
        right = {text: is_text(form, 1, text) for text in texts}
        starts = set()
        for text in texts:
            if right[text]:
                marks = [mark for _, _, mark in marks_of(text)]
                starts |= {tuple(marks[:end]) for end in range(len(marks) + 1)}
        for text in texts:
            marks = marks_of(text)
            if len(marks) <= most:
                self.check_text(form, text, marks, right[text], starts)

    def check_text(self, form, text, marks, is_right, starts):
        """Checks one text, when it is known how texts of the form begin."""
        try:
            read_form(form, 1, text)
            place = None
        except InvalidText as wrong:
            place = wrong.line, wrong.at
        self.assertEqual(place is None, is_right, text)
        lines = text.split("\n")
        refused = [end for end, (line, at, _) in enumerate(marks) if (line, at) == place]
        if refused:
            self.assertNotIn(tuple(mark for _, _, mark in marks[:refused[0] + 1]), starts, text)
            self.refuses(InvalidText(*place), completed, form, 1, text)
            # What is before goes on: it is completed.
            text = text[:sum(len(line) + 1 for line in lines[:place[0]]) + place[1]]
        elif place is not None:
            self.assertEqual(place, (len(lines) - 1, len(lines[-1])), text)
        longer = completed(form, 1, text)
        self.assertTrue(longer.startswith(text))
        known = [mark for _, _, mark in marks_of(text)]
        self.assertEqual([mark for _, _, mark in marks_of(longer)][:len(known)], known)
        self.assertTrue(is_text(form, 1, longer), (text, longer))

    def test_filters(self):
        self.check_all("filter", ("a", "!", "&", "|", "(", ")"), 4, 2)
        self.check_all("filter", ("0", "1", "-", "<=", "a", "&"), 5, 1)

    def test_states_and_deeds(self):
        self.check_all("state", ("0", "1", ":", "-", ",", "a"), 4, 2)
        self.check_all("state", ("0", "1", ":", "\n"), 6, 1)
        self.check_all("deeds", ("put", "take", "1", ":", "\n"), 5, 1)

    def test_answers_and_papers(self):
        self.check_all("answer", ("0", "1", "at", ",", "none"), 5, 1)
        self.check_all("paper", ("none", ";", "far", "0", "2", "1001"), 5, 1)
        self.check_all("paper", ("1", "at", ";", "far"), 5, 2)

    def test_questions(self):
        self.check_all("question", ("1", "nearest", "to", "by", "sum"), 6, 0)


if __name__ == "__main__":
    unittest.main()
