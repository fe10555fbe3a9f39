"""The interface: which file defines what, and how the parameters are called."""

import ast
import importlib
import inspect
import os
import unittest

PACKAGE = os.path.join(os.path.dirname(os.path.dirname(os.path.abspath(__file__))), "nonearer")

FUNCTIONS = {
    "cells": {"number_cells": "number", "integer_cells": "integer", "name_cells": "name", "item_cells": "item",
              "deed_cells": "deed", "entry_cells": "entry", "read_number": "cells at", "read_integer": "cells at",
              "read_name": "cells at", "read_item": "cells at", "read_deed": "cells", "read_entry": "cells"},
    "files": {"check_shard_name": "value", "log_file": "name number", "snapshot_file": "name number",
              "shard_files": "names name"},
    "lexer": {"marks_of": "text"},
    "vectors": {"check_vector": "value many", "is_vector": "value many", "differences": "one other",
                "moved_vector": "vector step", "at_places": "vector places", "bounds_of": "vectors",
                "middle_of": "vectors", "widest_place": "vectors", "halves_of": "vectors"},
    "cuts": {"cut": "disk choice", "cut_count": "disk", "all_cuts": "disk", "played": "files calls",
             "moments": "files calls"},
    "distances": {"is_kind": "value", "part_of": "kind difference", "joined_parts": "kind parts",
                  "distance": "kind one other", "distance_at": "kind one other places",
                  "is_within": "kind one other reach", "place_by": "kind target vectors",
                  "first_nearest": "kind target vectors", "first_farthest": "kind target vectors",
                  "radius_of": "kind centre vectors", "gap_of": "kind one other",
                  "least_beyond": "kind from_centre radius", "most_beyond": "kind from_centre radius",
                  "reaches": "kind from_centre radius reach"},
    "items": {"check_item": "value many", "label_of": "item name", "with_label": "item name value"},
    "log": {"framed": "body", "read_frames": "cells", "record_cells": "entry", "read_records": "cells"},
    "filters": {"check_filter": "value", "part_at": "sieve number", "filter_names": "sieve", "passes": "sieve item"},
    "regions": {"is_region": "value places", "holds_vector": "kind region vector", "ball_of": "kind centre vectors",
                "box_of": "vectors", "cell_of": "kind centre vectors", "region_of": "kind form vectors",
                "floor_of": "kind region vector", "ceiling_of": "kind region vector"},
    "spread": {"check_spread": "value places", "shard_count": "spread", "home_of": "spread item",
               "spread_out": "spread state", "strays": "spread states", "moves_for": "spread states"},
    "summaries": {"summary": "items", "joined_summary": "one other", "is_summary": "value", "example_labels": "told",
                  "is_possible": "labels told", "verdict": "sieve told", "may_pass": "sieve told",
                  "must_pass": "sieve told"},
    "around": {"grown": "kind region vector", "joined_region": "kind one other", "box_around": "kind region",
               "is_inside": "kind inner outer", "floor_between": "kind one other",
               "reach_word": "kind region vector reach"},
    "codes": {"is_coder": "value places", "ladder_of": "integers many", "coder_of": "vectors many",
              "code_of": "coder vector", "code_box": "coder code", "code_floor": "kind coder code vector",
              "code_ceiling": "kind coder code vector", "coded": "coder state", "widened": "coder vector"},
    "deciding": {"count_choices": "sieve", "possible_labels": "sieve told", "passing_labels": "sieve",
                 "parting_labels": "one other"},
    "forms": {"plain_filter": "sieve", "opposite_filter": "sieve", "is_plain_filter": "sieve"},
    "lots": {"all_lots": "index", "lot_count": "index", "depth_of": "index", "all_keys": "lot", "lots_in": "lot",
             "own_keys": "lot", "lot_at": "index path", "path_of": "index key", "index_fault": "value state",
             "is_sound": "value state"},
    "questions": {"check_question": "value places", "check_deed": "value places", "deed_key": "deed"},
    "walks": {"graph_of": "state kind many", "is_graph": "state value", "two_way": "state kind graph",
              "reached_keys": "state graph key", "walk": "state kind graph vector key",
              "guess": "state graph question key room"},
    "building": {"built": "state kind form * room", "built_lot": "state keys kind form * room",
                 "centres_of": "kind vectors many", "cells_of": "kind centres vectors",
                 "rings_of": "kind centre vectors", "most_depth": "count form", "most_lots": "count"},
    "papers": {"answer_reach": "question answer", "closing_word": "kind vector sieve reach lot",
               "looked": "index state kind vector sieve reach steps", "least_steps": "index kind vector sieve reach",
               "paper_of": "index question answer", "within_paper": "index state kind vector reach sieve",
               "fewer": "paper many", "opened_lots": "index steps", "work_of": "index steps",
               "step_of_key": "index steps key", "right_count": "index kind vector sieve reach",
               "all_right_steps": "index kind vector sieve reach"},
    "plain": {"is_state": "value places", "done": "state deed", "done_all": "state deeds", "state_of": "items",
              "last_deeds": "deeds", "deeds_between": "one other", "passing_keys": "state sieve",
              "nearest": "state question", "within": "state kind vector reach sieve",
              "count_within": "state kind vector reach sieve", "reach_of": "state question",
              "rank_of": "state question key", "union_of": "states", "first_of_all": "answers many",
              "answer_fault": "state question value"},
    "search": {"found": "index state question * known=", "found_within": "index state kind vector reach sieve",
               "counted": "index state kind vector reach sieve", "found_behind": "index state question pair"},
    "changes": {"depth_limit": "count", "is_tidy": "value state", "tidy_fault": "index state",
                "place_for": "index lots vector", "holding_lots": "index key", "with_item": "index state item",
                "without_key": "index state key", "after_deed": "index state deed",
                "after_deeds": "index state deeds", "changed_into": "index state other", "rebuilt": "index state"},
    "extremes": {"farthest": "index state question", "closest": "index state many sieve"},
    "guesses": {"is_guess": "state question value", "bounded": "index state question pairs", "is_factor": "value",
                "is_loose": "state question factor value", "loose_paper": "index state question factor",
                "is_loose_paper": "index state question factor value"},
    "judge": {"first_fault": "index state question value", "is_right": "index state question value",
              "shorter": "index question paper", "within_fault": "index state kind vector reach sieve value",
              "is_within_paper": "index state kind vector reach sieve value", "tied": "index state question paper",
              "why_not": "index state question paper key"},
    "moves": {"empty_book": "", "noted": "book entry", "book_of": "entries", "after_steps": "logs steps",
              "cut_logs": "logs kept", "books_of": "logs", "move_steps": "books source target keys",
              "settling_steps": "books", "whole_state": "books", "are_agreed": "books"},
    "tales": {"lost_keys": "before deeds safe after", "may_be_left": "before deeds safe after",
              "least_left": "before deeds safe", "left_count": "before deeds safe"},
    "together": {"together": "shards question", "shards_asked": "value", "is_together": "shards question value"},
    "printer": {"show_item": "item", "show_state": "state", "show_deed": "deed", "show_deeds": "deeds",
                "show_filter": "sieve", "show_question": "question", "show_answer": "answer", "show_paper": "paper"},
    "reader": {"read_state": "places text", "read_deeds": "places text", "read_filter": "text",
               "read_question": "places text", "read_answer": "text", "read_paper": "text",
               "completed": "form places text"},
    "scans": {"floor_pairs": "coder codes state question", "scan": "coder codes state question",
              "is_scan": "coder codes state question value"},
    "snapshots": {"snapshot_cells": "book", "read_snapshot": "cells"},
    "scripts": {"is_command": "value places", "read_script": "places text", "show_command": "command",
                "show_script": "commands"},
    "runs": {"run_commands": "commands spread places * kind=square form=boxes room=8",
             "run_script": "text spread places * kind=square form=boxes room=8", "show_result": "result",
             "run_fault": "commands results spread places * kind=square"},
    "claims": {"holds": "value", "failing": "claims", "shown_answer": "claim"},
}

CLASSES = {
    "errors": {"StoreError": {}, "InvalidVector": {"__init__": "at"}, "InvalidItem": {"__init__": "at"},
               "InvalidFilter": {"__init__": "at"}, "InvalidQuestion": {"__init__": "at"},
               "InvalidText": {"__init__": "line at"}, "InvalidPaper": {"__init__": "at"},
               "InvalidNumber": {"__init__": "word"}, "Refused": {"__init__": "word"}, "Broken": {"__init__": "word"}},
    "queue": {"Queue": {"__init__": "entries", "how_many": "", "put": "entry", "first": "", "take": "",
                        "take_all": "", "listed": ""}},
    "disk": {"Disk": {"__init__": "files", "make": "name", "append": "name cells", "rename": "name to",
                      "remove": "name", "sync": "name", "sync_names": "", "read": "name", "names": "", "image": "",
                      "calls": ""}},
    "log": {"Log": {"__init__": "disk name", "entries": "", "write": "entry", "sync": "", "synced": ""}},
    "lots": {"Index": {"__init__": "kind form lot room", "__eq__": "other"}},
    "papers": {"Paper": {"__init__": "answer steps"}},
    "search": {"Search": {"__init__": "index state kind vector sieve * known= behind=", "step": "", "more": "many",
                          "pairs": "", "bound": "", "opened": "", "passed": ""}},
    "moves": {"Book": {"__init__": "state waiting given_away mark"}},
    "standing": {"Standing": {"__init__": "state question * spare=0", "answer": "", "kept": "", "limit": "", "refills": "",
                              "matters": "deed", "told": "deed state"},
                 "Nearby": {"__init__": "state kind vector reach sieve", "kept": "", "told": "deed"}},
    "together": {"Together": {"__init__": "answer steps"}},
    "boards": {"Board": {"__init__": "* spare=0", "ask": "state question", "leave": "number", "numbers": "",
                         "answer_to": "number", "answers": "", "refill_count": "", "candidates": "deed",
                         "touched": "deed", "told": "deed state"}},
    "scans": {"Scan": {"__init__": "answer chosen"}},
    "vaults": {"Vault": {"__init__": "disk name", "book": "", "write": "entry", "sync": "", "written": "", "synced": "",
                         "number": "", "begin": "", "more": "", "finish": "", "is_begun": "", "fold": "", "cells": "",
                         "is_due": "room"}},
    "store": {"Store": {"__init__": "disks spread places * kind=square form=boxes room=8", "books": "", "shards": "",
                        "all_items": "", "owner_of": "key", "put": "item", "take": "key", "sync": "", "tale": "",
                        "ask": "question", "is_shown": "question value", "move": "source target keys * stop=7",
                        "level": "", "fold": "room"}},
}

# Classes whose arguments are attributes, which are set when an object is created.
KEPT = {"lots": ["Index"], "papers": ["Paper"], "search": ["Search"], "log": ["Log"], "moves": ["Book"],
        "together": ["Together"], "boards": ["Board"], "scans": ["Scan"], "vaults": ["Vault"], "store": ["Store"]}

# Classes that keep all arguments but the state.
KEPT_BUT_STATE = {"standing": ["Standing", "Nearby"]}


def defined_in(module, kind):
    """Returns the definitions of a kind that stand at the top of a module's file, by name."""
    with open(os.path.join(PACKAGE, module + ".py"), encoding="ascii") as file:
        return {node.name: node for node in ast.parse(file.read()).body if isinstance(node, kind)}


def parameters(function):
    """Returns the names of a function's parameters, a `*` before those by keyword alone, and `=` behind a default."""
    words = []
    for one in inspect.signature(function).parameters.values():
        if one.kind == inspect.Parameter.KEYWORD_ONLY and "*" not in words:
            words.append("*")
        has_default = one.default is not inspect.Parameter.empty
        words.append(one.name + ("=" + ("" if one.default is None else str(one.default)) if has_default else ""))
    return words


class InterfaceTest(unittest.TestCase):

    def test_functions(self):
        for module, functions in FUNCTIONS.items():
            there = importlib.import_module("nonearer." + module)
            here = defined_in(module, ast.FunctionDef)
            for name, words in functions.items():
                self.assertIn(name, here)
                self.assertEqual(parameters(getattr(there, name)), words.split(), name)

    def test_classes(self):
        for module, classes in CLASSES.items():
            there = importlib.import_module("nonearer." + module)
            here = defined_in(module, ast.ClassDef)
            for name, methods in classes.items():
                own = {node.name for node in here[name].body if isinstance(node, ast.FunctionDef)}
                for method, words in methods.items():
                    self.assertIn(method, own)
                    found = parameters(getattr(getattr(there, name), method))
                    self.assertEqual(found, ["self"] + words.split(), (name, method))

    def test_no_class_is_derived_from_another_but_errors(self):
        for module, classes in CLASSES.items():
            for name, node in defined_in(module, ast.ClassDef).items():
                self.assertTrue(module == "errors" or node.bases == [], name)

    def test_arguments_are_kept_as_attributes(self):
        for kept, left_out in ((KEPT, ()), (KEPT_BUT_STATE, ("state",))):
            for module, names in kept.items():
                for name in names:
                    words = [word.split("=")[0] for word in CLASSES[module][name]["__init__"].split() if word != "*"]
                    node = defined_in(module, ast.ClassDef)[name]
                    start = [one for one in node.body if getattr(one, "name", "") == "__init__"][0]
                    stored = [one.attr for one in ast.walk(start)
                              if isinstance(one, ast.Attribute) and isinstance(one.ctx, ast.Store)]
                    self.assertEqual([one for one in stored if not one.startswith("_")],
                                     [word for word in words if word not in left_out])

    def test_values(self):
        distances = importlib.import_module("nonearer.distances")
        self.assertEqual(distances.KINDS, ("square", "sum", "most", "unlike"))


if __name__ == "__main__":
    unittest.main()
