"""[94], [95]: commands and scripts."""

import random
import unittest

from helper import ALL, Case, odd_values, some_command, some_filter, some_question, some_state, some_vector
from nonearer.errors import InvalidText
from nonearer.printer import show_deed, show_question
from nonearer.scripts import is_command, read_script, show_command, show_script

ITEM = (4, (0, -5), (("red", 1),))
QUESTION = ("sum", (0, -5), 3, ("has", "if"))
ROWS = ((("do", ("put", ITEM)), "put 4: 0 -5, red 1"), (("do", ("take", 12)), "take 12"),
        (("ask", QUESTION), "ask 3 nearest to 0 -5 by sum if if"), (("sync",), "sync"), (("level",), "level"),
        (("count",), "count"), (("keys",), "keys"), (("fold", 0), "fold 0"), (("fold", 16), "fold 16"), (("cut", ()), "cut"),
        (("cut", (3, 0, 3)), "cut 3 0 3"), (("move", 0, 1, (4, 9)), "move 0 1 4 9"), (("move", 5, 5, (0,)), "move 5 5 0"),
        (("stop", 3, 0, 1, (4, 9)), "stop 3 0 1 4 9"), (("stop", 0, 0, 0, (0,)), "stop 0 0 0 0"),
        (("stop", 7, 0, 1, (4,)), "stop 7 0 1 4"))


class CommandTest(Case):

    def test_commands(self):
        for command, _ in ROWS:
            self.assertIs(is_command(command, 2), True)
        self.assertIs(is_command(value=("fold", 10 ** 30), places=1), True)
        self.assertIs(is_command(("do", ("put", ITEM)), 1), False)
        self.assertIs(is_command(("ask", QUESTION), 3), False)
        self.assertIs(is_command(("do", ("take", 12)), 9), True)
        self.assertIs(is_command(("move", 8, 99, (4,)), 2), True)
        self.assertIs(is_command(("stop", 7, 8, 99, (4,)), 2), True)

    def test_any_value(self):
        for value in odd_values() + [(), "sync", ["sync"], ("Sync",), ("",), ("put", ITEM), ("take", 4), (("sync",),), 0]:
            self.assertIs(is_command(value, 2), False)
        for command, _ in ROWS:
            self.assertIs(is_command(list(command), 2), False)
            self.assertIs(is_command(command + (0,), 2), False)
            if len(command) > 1:
                self.assertIs(is_command(command[:-1], 2), False)
            for at in range(len(command)):
                for odd in odd_values() + [-1, "7", ("1",), ((),), [4]]:
                    self.assertIs(is_command(command[:at] + (odd,) + command[at + 1:], 2), False)

    def test_wrong_parts(self):
        for value in (("stop", 8, 0, 1, (4,)), ("stop", 3, 0, 1, ()), ("move", 0, 1, ()), ("move", 0, 1, (4, 4)),
                      ("move", 0, 1, (9, 4)), ("move", 0, 1, (4, True)), ("move", 0, 1, (-4,)), ("move", 0, 1, 4),
                      ("cut", (1, -1)), ("cut", (1, True)), ("cut", 3), ("cut", (1, (1,))), ("fold", ()), ("fold", (1,)),
                      ("do", ("drop", 4)), ("do", ("take", -4)), ("do", ("put", (4, (0, 0), (("B", 1),)))), ("do", ()),
                      ("ask", QUESTION[:3]), ("ask", ("sums",) + QUESTION[1:]), ("sync", ()), ("keys", 1), ("do",), ("ask",)):
            self.assertIs(is_command(value, 2), False)


class ShowTest(Case):

    def test_each_command(self):
        for command, line in ROWS:
            self.same(self.unchanged(show_command, command), line)
            self.same(read_script(2, line), (command,))
        self.same(show_script(commands=tuple(command for command, _ in ROWS)), "\n".join(line for _, line in ROWS))
        self.same((show_script(()), show_command(command=("sync",))), ("", "sync"))

    def test_deeds_and_questions_are_shown_as_ever(self):
        draw = random.Random(94)
        for _ in range(50):
            question = some_question(draw, 2)
            self.same(show_command(("ask", question)), "ask " + show_question(question))
            item = list(some_state(draw, 1, 2).values())[0]
            self.same(show_command(("do", ("put", item))), show_deed(("put", item)))

    def test_read_again(self):
        draw = random.Random(95)
        for _ in range(200):
            places = draw.randint(1, 2)
            commands = tuple(some_command(draw, places) for _ in range(draw.randint(0, 6)))
            self.assertTrue(all(is_command(command, places) for command in commands))
            self.same(read_script(places, self.unchanged(show_script, commands)), commands)


class ReadTest(Case):

    def test_lines(self):
        self.same(read_script(places=2, text="\n\nsync\n\nput 4:0 -5 ,red 1\ntake  12  \ncut\n"),
                  (("sync",), ("do", ("put", ITEM)), ("do", ("take", 12)), ("cut", ())))
        for text in ("", "\n", "\n\n\n"):
            self.same(read_script(2, text), ())
        self.same(read_script(1, "ask   1nearest to-3 by most if(a)"), (("ask", ("most", (-3,), 1, ("has", "a"))),))
        self.same(read_script(1, "ask 1 nearest to 3 by most"), (("ask", ("most", (3,), 1, ALL)),))

    def test_numerals(self):
        long = "9" * 18
        self.same(read_script(1, "fold " + long), (("fold", int(long)),))
        self.same(read_script(1, "take 1" + long), (("do", ("take", int("1" + long))),))
        for line in ("fold 1" + long, "cut 1" + long, "move 0 1 1" + long, "fold 00", "fold 01", "cut -1", "cut 1,2"):
            self.refuses(InvalidText(0, 0), read_script, 1, line)

    def test_no_string(self):
        for value in odd_values() + [0, ("sync",), ["sync"]]:
            self.refuses(InvalidText(-1, -1), read_script, 1, value)

    def test_lines_that_are_no_commands(self):
        for line in (" ", "  ", " sync", "sync ", "sync 1", "sync\t", "Sync", "syncs", "sync,", "level 0", "count 1", "keys 4",
                     "fold", "fold ", "fold  1", "fold 1 ", "fold 1 2", "fold x", "fold -1", "cut ", "cut  1", "cut 1 ", "cut x",
                     "move", "move 0", "move 0 1", "move 0 1 ", "move 0 1 9 4", "move 0 1 4 4", "move 0 1  4", "move x 1 4",
                     "stop 3 0 1", "stop 8 0 1 4", "stop 3 0", "stop", "put", "take", "ask", "put ", "take ", "ask ", "do 4",
                     " put 4: 0 0", "put4: 0 0", "put 4: 0", "put 4: 0 0 0", "put 4 0 0", "put 4: 0 0, a", "put 04: 0 0",
                     "take4", "take -4", "take 4 5", "take x", " take 4", "ask 0 nearest to 0 0 by sum",
                     "ask 1 nearest to 0 by sum", "ask 1 nearest to 0 0", "ask1 nearest to 0 0 by sum",
                     "ask 1 nearest to 0 0 by sum if", "4: 0 0", "none", "*", "take take 4", "put put 4: 0 0", "ask ask",
                     "put\t4: 0 0", "opened 4", "cut 1.5", "fold 1_0"):
            self.refuses(InvalidText(0, 0), read_script, 2, line)
            self.refuses(InvalidText(3, 0), read_script, 2, "sync\n\ncut\n" + line + "\nfold")
            self.refuses(InvalidText(0, 0), read_script, 2, line + "\nsync")

    def test_the_first_wrong_line(self):
        self.refuses(InvalidText(1, 0), read_script, 2, "sync\nfold\nfold\n")
        self.refuses(InvalidText(2, 0), read_script, 2, "\n\n \n\n")

    def test_places(self):
        draw = random.Random(96)
        for places in (1, 2, 5):
            vector = some_vector(draw, places)
            commands = (("ask", ("sum", vector, 1, some_filter(draw, 2))),)
            text = show_script(commands)
            self.same(read_script(places, text), commands)
            self.refuses(InvalidText(0, 0), read_script, places + 1, text)


if __name__ == "__main__":
    unittest.main()
