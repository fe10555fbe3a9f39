"""[4]: what holds of all functions and classes."""

import copy
import importlib
import unittest

from helper import ALL, Case, as_values, odd_values
from nonearer.boards import Board
from nonearer.building import built
from nonearer.codes import coded, coder_of
from nonearer.disk import Disk
from nonearer.lots import Index
from nonearer.log import Log
from nonearer.moves import Book, move_steps
from nonearer.papers import Paper
from nonearer.queue import Queue
from nonearer.scans import Scan
from nonearer.search import Search
from nonearer.standing import Nearby, Standing
from nonearer.store import Store
from nonearer.together import Together, together
from nonearer.vaults import Vault
from nonearer.walks import graph_of
from test_interface import CLASSES, FUNCTIONS

ITEM = (7, (3, -4), (("red", 2), ("size", -1)))
STATE = {3: (3, (9, 9), (("new", 4),)), 1: (1, (0, 0), ()), 2: (2, (3, 0), (("red", 1),)), 7: ITEM}
OTHER = {4: (4, (1, 1), ()), 1: (1, (0, 0), (("red", 0),))}
LONE = {5: (5, (2, 2), ())}
ITEMS = tuple(STATE.values())
VECTORS = ((0, 0), (4, 0), (4, 3), (4, 0))
SIEVE = ("and", ("in", "red", 0, 5), ("or", ("has", "red"), ("not", ("has", "size"))))
QUESTION = ("sum", (1, 0), 2, ALL)
FILTERED = ("sum", (1, 0), 2, SIEVE)
INDEX = built(STATE, "sum", "boxes", room=1)
CELLS = built(STATE, "sum", "cells", room=1)
ANSWER = ((1, 1), (2, 2))
STEPS = ("open",) * len([lot for lot in range(7)])
PAPER = Paper(ANSWER, ("open", "open", "open", "open", "open", "open", "far"))
DEEDS = (("put", (1, (5, 5), ())), ("take", 3), ("put", (1, (6, 6), ())))
CODER = coder_of(tuple(item[1] for item in ITEMS), 2)
CODES = coded(CODER, STATE)
GRAPH = graph_of(STATE, "sum", 2)
TOLD = (4, (("new", 1, 4, 4), ("red", 2, 1, 2)))
ONE, TWO = ("ball", (0, 0), 5), ("ball", (6, 8), 2)
SHARDS = ((INDEX, STATE), (built(LONE, "sum", "balls", room=1), LONE))
TOGETHER = together(SHARDS, QUESTION)
BOOKS = (Book(STATE, {}, {}, 3), Book(LONE, {1: (0, ((9, (0, 0), ()),))}, {2: (0, (4,))}, 3))
LOGS = (((("deed", DEEDS[0]), ("deed", DEEDS[1])), 1), ((("here", 4),), 0))
RUN_LOGS = (((("deed", DEEDS[0]),), 1), ((), 0))
DISK = Disk({"a": (1, 2), "b": ()})
DISK.append("a", (3,))
COMMANDS = (("do", DEEDS[0]), ("sync",), ("ask", QUESTION), ("cut", (0, 0)), ("stop", 3, 1, 0, (1,)))
REST = ("rest", 2)
RESULTS = (("shard", 1), ("ok",), ("answer", ((9, 1),)), ("opened", ((1, (5, 5), ()),)), ("opened", ((1, (5, 5), ()),)))
STATES = (STATE, LONE)

# For each function of the interface, arguments by position; those by keyword alone stand in a dict at the end.
CALLS = {
    "cells": {"number_cells": (300,), "integer_cells": (-300,), "name_cells": ("red",), "item_cells": (ITEM,),
              "deed_cells": (("put", ITEM),), "entry_cells": (("come", 3, 1, ITEMS),), "read_number": ((172, 2, 9), 0),
              "read_integer": ((9, 5), 1), "read_name": ((2, 0, 1), 0), "read_item": ((5, 1, 2, 0), 0), "read_deed": ((0, 172, 2),),
              "read_entry": ((4, 7),)},
    "files": {"check_shard_name": ("east",), "log_file": ("east", 3), "snapshot_file": ("east", 12),
              "shard_files": (("east.l0", "b", "east.s3", "east.l0.new"), "east")},
    "lexer": {"marks_of": ("a <= 3\n7",)},
    "vectors": {"check_vector": ((1, 2), 2), "is_vector": ((1, 2), 3), "differences": ((1, 2), (3, 5)),
                "moved_vector": ((1, 2), (3, 5)), "at_places": ((4, 5, 6), (2, 0)), "bounds_of": (VECTORS,),
                "middle_of": (VECTORS,), "widest_place": (VECTORS,), "halves_of": (VECTORS,)},
    "cuts": {"cut": (DISK, (0, 0)), "cut_count": (DISK,), "all_cuts": (DISK,), "played": ({"a": (1,)}, DISK.calls()),
             "moments": ({"a": (1,)}, DISK.calls())},
    "distances": {"is_kind": ("sum",), "part_of": ("square", -3), "joined_parts": ("most", [3, 4]),
                  "distance": ("sum", (1, 2), (4, 4)), "distance_at": ("sum", (1, 2), (4, 4), (1,)),
                  "is_within": ("sum", (1, 2), (4, 4), 5), "place_by": ("sum", (4, 1), VECTORS),
                  "first_nearest": ("sum", (4, 1), VECTORS), "first_farthest": ("sum", (4, 1), VECTORS),
                  "radius_of": ("sum", (4, 1), VECTORS), "gap_of": ("square", 9, 25), "least_beyond": ("square", 49, 10),
                  "most_beyond": ("square", 2, 8), "reaches": ("square", 50, 18, 8)},
    "items": {"check_item": (ITEM, 2), "label_of": (ITEM, "red"), "with_label": (ITEM, "red", None)},
    "log": {"framed": ((1, 2),), "read_frames": ((2, 1, 2, 5, 9),), "record_cells": (("here", 4),), "read_records": ((2, 4, 7, 18),)},
    "filters": {"check_filter": (SIEVE,), "part_at": (SIEVE, 3), "filter_names": (SIEVE,), "passes": (SIEVE, ITEM)},
    "regions": {"is_region": (ONE, 2), "holds_vector": ("sum", ONE, (1, 1)), "ball_of": ("sum", (0, 0), VECTORS),
                "box_of": (VECTORS,), "cell_of": ("sum", (0, 0), VECTORS), "region_of": ("sum", "boxes", VECTORS),
                "floor_of": ("sum", ONE, (9, 9)), "ceiling_of": ("sum", ONE, (9, 9))},
    "spread": {"check_spread": (REST, 2), "shard_count": (REST,), "home_of": (REST, ITEM), "spread_out": (REST, STATE),
               "strays": (REST, STATES), "moves_for": (REST, STATES)},
    "summaries": {"summary": (ITEMS,), "joined_summary": (TOLD, TOLD), "is_summary": (TOLD,), "example_labels": (TOLD,),
                  "is_possible": ((("red", 1),), TOLD), "verdict": (SIEVE, TOLD), "may_pass": (SIEVE, TOLD),
                  "must_pass": (SIEVE, TOLD)},
    "around": {"grown": ("sum", ONE, (9, 9)), "joined_region": ("sum", ONE, TWO), "box_around": ("sum", ONE),
               "is_inside": ("sum", ONE, TWO), "floor_between": ("sum", ONE, TWO), "reach_word": ("sum", ONE, (9, 9), 7)},
    "codes": {"is_coder": (CODER, 2), "ladder_of": ((3, 1, 9), 2), "coder_of": (VECTORS, 2), "code_of": (CODER, (9, 9)),
              "code_box": (CODER, (0, 0)), "code_floor": ("sum", CODER, (0, 0), (9, 9)),
              "code_ceiling": ("sum", CODER, (0, 0), (9, 9)), "coded": (CODER, STATE), "widened": (CODER, (99, 99))},
    "deciding": {"count_choices": (SIEVE,), "possible_labels": (SIEVE, TOLD), "passing_labels": (SIEVE,),
                 "parting_labels": (SIEVE, ALL)},
    "forms": {"plain_filter": (SIEVE,), "opposite_filter": (SIEVE,), "is_plain_filter": (SIEVE,)},
    "lots": {"all_lots": (INDEX,), "lot_count": (INDEX,), "depth_of": (INDEX,), "all_keys": (INDEX.lot,), "lots_in": (INDEX.lot,),
             "own_keys": (INDEX.lot,), "lot_at": (INDEX, (0,)), "path_of": (INDEX, 7), "index_fault": (INDEX, OTHER),
             "is_sound": (INDEX, STATE)},
    "questions": {"check_question": (QUESTION, 2), "check_deed": (DEEDS[0], 2), "deed_key": (DEEDS[0],)},
    "walks": {"graph_of": (STATE, "sum", 2), "is_graph": (STATE, GRAPH), "two_way": (STATE, "sum", GRAPH),
              "reached_keys": (STATE, GRAPH, 1), "walk": (STATE, "sum", GRAPH, (9, 9), 1),
              "guess": (STATE, GRAPH, QUESTION, 3, 2)},
    "building": {"built": (STATE, "sum", "cells", {"room": 1}), "built_lot": (STATE, (1, 3), "sum", "balls", {"room": 1}),
                 "centres_of": ("sum", VECTORS, 2), "cells_of": ("sum", ((0, 0), (4, 0)), VECTORS),
                 "rings_of": ("sum", (0, 0), VECTORS), "most_depth": (9, "cells"), "most_lots": (9,)},
    "papers": {"answer_reach": (QUESTION, ANSWER), "closing_word": ("sum", (1, 0), ALL, 2, INDEX.lot),
               "looked": (INDEX, STATE, "sum", (1, 0), ALL, None, STEPS), "least_steps": (INDEX, "sum", (1, 0), ALL, 2),
               "paper_of": (INDEX, QUESTION, ANSWER), "within_paper": (INDEX, STATE, "sum", (1, 0), 2, ALL), "fewer": (PAPER, 1),
               "opened_lots": (INDEX, STEPS), "work_of": (INDEX, STEPS), "step_of_key": (INDEX, STEPS, 7),
               "right_count": (INDEX, "sum", (1, 0), ALL, 2), "all_right_steps": (INDEX, "sum", (1, 0), ALL, 2)},
    "plain": {"is_state": (STATE, 2), "done": (STATE, DEEDS[0]), "done_all": (STATE, DEEDS), "state_of": (ITEMS,),
              "last_deeds": (DEEDS,), "deeds_between": (STATE, OTHER), "passing_keys": (STATE, SIEVE), "nearest": (STATE, QUESTION),
              "within": (STATE, "sum", (1, 0), 9, ALL), "count_within": (STATE, "sum", (1, 0), 9, ALL),
              "reach_of": (STATE, QUESTION), "rank_of": (STATE, QUESTION, 7), "union_of": (STATES,),
              "first_of_all": ((ANSWER, ((1, 9),)), 2), "answer_fault": (STATE, QUESTION, ANSWER[:1])},
    "search": {"found": (INDEX, STATE, QUESTION, {"known": None}), "found_within": (INDEX, STATE, "sum", (1, 0), 9, ALL),
               "counted": (INDEX, STATE, "sum", (1, 0), 9, ALL), "found_behind": (INDEX, STATE, QUESTION, (1, 1))},
    "changes": {"depth_limit": (9,), "is_tidy": (INDEX, STATE), "tidy_fault": (INDEX, STATE),
                "place_for": (INDEX, INDEX.lot[2][1], (9, 9)), "holding_lots": (INDEX, 7), "with_item": (CELLS, STATE, OTHER[4]),
                "without_key": (CELLS, STATE, 9), "after_deed": (INDEX, STATE, DEEDS[0]), "after_deeds": (INDEX, STATE, ()),
                "changed_into": (INDEX, STATE, OTHER), "rebuilt": (INDEX, STATE)},
    "extremes": {"farthest": (INDEX, STATE, QUESTION), "closest": (INDEX, STATE, 2, ALL)},
    "guesses": {"is_guess": (STATE, QUESTION, ANSWER), "bounded": (INDEX, STATE, QUESTION, ANSWER[:1]), "is_factor": ((3, 2),),
                "is_loose": (STATE, QUESTION, (3, 2), ANSWER), "loose_paper": (INDEX, STATE, QUESTION, (3, 2)),
                "is_loose_paper": (INDEX, STATE, QUESTION, (3, 2), PAPER)},
    "judge": {"first_fault": (INDEX, STATE, QUESTION, PAPER), "is_right": (INDEX, STATE, FILTERED, PAPER),
              "shorter": (INDEX, QUESTION, PAPER), "within_fault": (INDEX, STATE, "sum", (1, 0), 2, ALL, PAPER),
              "is_within_paper": (INDEX, STATE, "sum", (1, 0), 2, ALL, PAPER), "tied": (INDEX, STATE, QUESTION, Paper(ANSWER, STEPS)),
              "why_not": (INDEX, STATE, QUESTION, Paper(ANSWER, STEPS), 7)},
    "moves": {"empty_book": (), "noted": (BOOKS[0], ("deed", DEEDS[0])), "book_of": (LOGS[0][0],),
              "after_steps": (RUN_LOGS, (("sync", 1), ("write", 0, ("deed", DEEDS[1])))), "cut_logs": (LOGS, (1, 0)),
              "books_of": (RUN_LOGS,), "move_steps": (BOOKS, 0, 1, (1, 2)), "settling_steps": (BOOKS,), "whole_state": (BOOKS,),
              "are_agreed": (BOOKS,)},
    "tales": {"lost_keys": (STATE, DEEDS, (1,), OTHER), "may_be_left": (STATE, DEEDS, (1,), OTHER),
              "least_left": (STATE, DEEDS, ()), "left_count": (STATE, DEEDS, (1,))},
    "together": {"together": (SHARDS, QUESTION), "shards_asked": (TOGETHER,), "is_together": (SHARDS, QUESTION, TOGETHER)},
    "printer": {"show_item": (ITEM,), "show_state": (STATE,), "show_deed": (DEEDS[0],), "show_deeds": (DEEDS,),
                "show_filter": (SIEVE,), "show_question": (FILTERED,), "show_answer": (ANSWER,), "show_paper": (PAPER,)},
    "reader": {"read_state": (1, "7: 3\n2: 1, b 2, a 1"), "read_deeds": (1, "take 7"), "read_filter": ("a & b",),
               "read_question": (1, "1 nearest to 3 by sum"), "read_answer": ("7 at 3",), "read_paper": ("none; far 3",),
               "completed": ("state", 1, "7")},
    "scans": {"floor_pairs": (CODER, CODES, STATE, QUESTION), "scan": (CODER, CODES, STATE, QUESTION),
              "is_scan": (CODER, CODES, STATE, QUESTION, Scan(ANSWER, (1, 2)))},
    "snapshots": {"snapshot_cells": (BOOKS[1],), "read_snapshot": ((5, 8, 2, 0, 0, 0, 12),)},
    "scripts": {"is_command": (COMMANDS[0], 2), "read_script": (2, "sync\ntake 3"), "show_command": (COMMANDS[0],),
                "show_script": (COMMANDS,)},
    "runs": {"run_commands": (COMMANDS, REST, 2, {"kind": "sum", "form": "cells", "room": 1}),
             "run_script": ("sync\ntake 3", REST, 2, {"kind": "sum", "form": "cells", "room": 1}), "show_result": (RESULTS[3],),
             "run_fault": (COMMANDS, RESULTS, REST, 2, {"kind": "sum"})},
    "claims": {"holds": (("sound", INDEX, STATE),), "failing": ((("sound", INDEX, STATE), None),),
               "shown_answer": (("answer", STATE, QUESTION, ANSWER),)},
}


def dicts_in(thing):
    """Returns all dicts in what a function returns, but for those that objects keep."""
    if isinstance(thing, dict):
        return [thing]
    return [one for part in thing for one in dicts_in(part)] if isinstance(thing, tuple) else []


def has_lists(thing):
    """Returns whether there is a list in what a function returns."""
    if isinstance(thing, (list, set)):
        return True
    parts = thing if isinstance(thing, tuple) else list(thing.values()) if isinstance(thing, dict) else ()
    return any(has_lists(part) for part in parts)


class FunctionsTest(Case):

    def calls(self):
        """Yields each function of the interface with its name, and arguments by position and by keyword."""
        for module, functions in CALLS.items():
            there = importlib.import_module("nonearer." + module)
            for name, args in functions.items():
                named = args[-1] if "*" in FUNCTIONS[module][name].split() else {}
                yield f"{module}.{name}", getattr(there, name), args[:-1] if named else args, named

    def test_all_functions_are_called_here(self):
        self.assertEqual({module: set(functions) for module, functions in CALLS.items()},
                         {module: set(functions) for module, functions in FUNCTIONS.items()})

    def test_arguments_stay_and_results_are_equal(self):
        for name, function, args, named in self.calls():
            before = copy.deepcopy((args, named))
            result = as_values(self.unchanged(function, *args, **named))
            self.assertEqual(as_values(function(*args, **named)), result, name)
            self.assertEqual(as_values(function(*before[0], **before[1])), result, name)

    def test_parameters_by_their_names(self):
        for name, function, args, named in self.calls():
            module, own = name.split(".")
            words = [word for word in FUNCTIONS[module][own].split() if word != "*" and "=" not in word and word not in named]
            self.assertEqual(len(words), len(args), name)
            result = function(**dict(zip(words, args)), **named)
            self.assertEqual(as_values(result), as_values(function(*args, **named)), name)

    def test_tuples_and_dicts_are_returned(self):
        for name, function, args, named in self.calls():
            self.assertFalse(has_lists(function(*args, **named)), name)

    def test_what_is_told_may_be_changed(self):
        changed = 0
        for name, function, args, named in self.calls():
            result = function(*args, **named)
            before = copy.deepcopy((as_values(args), as_values(named), as_values(result)))
            for table in dicts_in(result):
                table.clear()
                table["odd"] = None
                changed += 1
            self.assertEqual(as_values((args, named)), [before[0], before[1]], name)
            self.assertEqual(as_values(function(*args, **named)), before[2], name)
        self.assertGreater(changed, 15)


class ClassesTest(Case):

    def test_all_classes_are_defined(self):
        for module, classes in CLASSES.items():
            there = importlib.import_module("nonearer." + module)
            for name in classes:
                self.assertEqual(getattr(there, name).__module__, "nonearer." + module)

    def test_later_changes_to_arguments_have_no_effect(self):
        state, waiting, gone, entries, files = dict(STATE), {1: (0, ITEMS)}, {2: (1, (5,))}, [3, 1], {"a": (1, 2)}
        made = (Search(INDEX, state, "sum", (1, 0), ALL), Standing(state, QUESTION, spare=1),
                Nearby(state, "sum", (1, 0), 9, ALL), Book(state, waiting, gone, 4), Queue(entries), Disk(files))
        board = Board()
        board.ask(state, QUESTION)
        for thing in (state, waiting, gone, entries, files):
            thing.clear()
        search, standing, nearby, book, queue, disk = made
        self.same((search.more(2), standing.answer(), board.answer_to(0)), (ANSWER,) * 3)
        self.same(nearby.kept(), ((1, 1), (2, 2), (6, 7)))
        self.assertEqual((book.state, book.waiting, book.given_away), (STATE, {1: (0, ITEMS)}, {2: (1, (5,))}))
        self.same((queue.listed(), disk.image()), ((1, 3), (("a", (1, 2)),)))

    def test_an_error_changes_nothing(self):
        disk, logged, shelf = Disk({"a": (1,)}), Disk({}), Disk({})
        log, vault, board, queue = Log(logged, "a"), Vault(shelf, "a"), Board(), Queue(())
        board.ask(STATE, QUESTION)
        disks = Disk({}), Disk({})
        store = Store(disks, REST, 2, kind="sum")
        for item in ITEMS:
            store.put(item)
        book = Book(STATE, {}, {}, 2)
        things = [queue, disk, log, vault, board, store, book, *disks]
        before = [copy.deepcopy(as_values(thing)) for thing in things]
        wrong = [(queue.first,), (queue.take,), (disk.make, "a"), (disk.append, "a", (300,)), (disk.append, "b", ()),
                 (disk.rename, "a", "A"), (disk.remove, "b"), (disk.sync, "b"), (disk.read, "b"), (Log, disk, "A"),
                 (vault.write, ("here", 0)), (vault.more,), (vault.finish,), (board.leave, 3), (board.answer_to, True),
                 (store.put, None), (store.put, (1, (0,), ())), (store.take, -1), (store.ask, None), (store.ask, ("most",) + QUESTION[1:]),
                 (store.is_shown, QUESTION[:3], None), (store.move, 0, 0, (2,)), (store.move, 0, 1, (1,)), (store.fold, -1),
                 (move_steps, store.books(), 0, 1, ())]
        for call, *args in wrong:
            self.assertRaises(ValueError, call, *args)
        self.assertRaises(ValueError, store.move, 0, 1, (2,), stop=8)
        self.assertEqual([as_values(thing) for thing in things], before)

    def test_what_objects_are_equal(self):
        # Only indexes have an equality of their own.
        self.assertEqual(Index("sum", "boxes", INDEX.lot, 1), INDEX)
        for one, other in ((Paper(1, 2), Paper(1, 2)), (Together(1, 2), Together(1, 2)), (Scan(1, 2), Scan(1, 2)),
                           (Book({}, {}, {}, 0), Book({}, {}, {}, 0))):
            self.assertNotEqual(one, other)
            self.assertEqual(vars(one), vars(other))
            self.assertNotEqual(INDEX, one)

    def test_any_values_are_kept(self):
        for odd in odd_values():
            for kept in (Paper(odd, odd), Together(odd, odd)):
                self.assertTrue(kept.answer is odd and kept.steps is odd)
            self.assertTrue(Scan(odd, odd).answer is odd and Scan(odd, odd).chosen is odd)
            index = Index(odd, odd, odd, odd)
            self.assertTrue(all(value is odd for value in vars(index).values()))


if __name__ == "__main__":
    unittest.main()
