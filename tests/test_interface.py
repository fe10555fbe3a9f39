"""The interface: which file defines what, and how the parameters are called."""

import ast
import importlib
import inspect
import os
import unittest

PACKAGE = os.path.join(os.path.dirname(os.path.dirname(os.path.abspath(__file__))), "nonearer")

FUNCTIONS = {
    "cells": {"number_cells": "number", "integer_cells": "integer", "name_cells": "name", "item_cells": "item",
              "deed_cells": "deed", "entry_cells": "entry", "read_number": "cells at", "read_integer": "cells at",
              "read_name": "cells at", "read_item": "cells at", "read_deed": "cells", "read_entry": "cells"},
    "files": {"check_shard_name": "value", "log_file": "name number", "snapshot_file": "name number",
              "shard_files": "names name"},
    "lexer": {"marks_of": "text"},
    "vectors": {"check_vector": "value many", "is_vector": "value many", "differences": "one other",
                "moved_vector": "vector step", "at_places": "vector places", "bounds_of": "vectors",
                "middle_of": "vectors", "widest_place": "vectors", "halves_of": "vectors"},
    "cuts": {"cut": "disk choice", "cut_count": "disk", "all_cuts": "disk", "played": "files calls",
             "moments": "files calls"},
    "distances": {"is_kind": "value", "part_of": "kind difference", "joined_parts": "kind parts",
                  "distance": "kind one other", "distance_at": "kind one other places",
                  "is_within": "kind one other reach", "place_by": "kind target vectors",
                  "first_nearest": "kind target vectors", "first_farthest": "kind target vectors",
                  "radius_of": "kind centre vectors", "gap_of": "kind one other",
                  "least_beyond": "kind from_centre radius", "most_beyond": "kind from_centre radius",
                  "reaches": "kind from_centre radius reach"},
    "items": {"check_item": "value many", "label_of": "item name", "with_label": "item name value"},
    "log": {"framed": "body", "read_frames": "cells", "record_cells": "entry", "read_records": "cells"},
    "filters": {"check_filter": "value", "part_at": "sieve number", "filter_names": "sieve", "passes": "sieve item"},
    "regions": {"is_region": "value places", "holds_vector": "kind region vector", "ball_of": "kind centre vectors",
                "box_of": "vectors", "cell_of": "kind centre vectors", "region_of": "kind form vectors",
                "floor_of": "kind region vector", "ceiling_of": "kind region vector"},
    "spread": {"check_spread": "value places", "shard_count": "spread", "home_of": "spread item",
               "spread_out": "spread state", "strays": "spread states", "moves_for": "spread states"},
}

CLASSES = {
    "errors": {"StoreError": {}, "InvalidVector": {"__init__": "at"}, "InvalidItem": {"__init__": "at"},
               "InvalidFilter": {"__init__": "at"}, "InvalidQuestion": {"__init__": "at"},
               "InvalidText": {"__init__": "line at"}, "InvalidPaper": {"__init__": "at"},
               "InvalidNumber": {"__init__": "word"}, "Refused": {"__init__": "word"}, "Broken": {"__init__": "word"}},
    "queue": {"Queue": {"__init__": "entries", "how_many": "", "put": "entry", "first": "", "take": "",
                        "take_all": "", "listed": ""}},
    "disk": {"Disk": {"__init__": "files", "make": "name", "append": "name cells", "rename": "name to",
                      "remove": "name", "sync": "name", "sync_names": "", "read": "name", "names": "", "image": "",
                      "calls": ""}},
    "log": {"Log": {"__init__": "disk name", "entries": "", "write": "entry", "sync": "", "synced": ""}},
}


def defined_in(module, kind):
    """Returns the definitions of a kind that stand at the top of a module's file, by name."""
    with open(os.path.join(PACKAGE, module + ".py"), encoding="ascii") as file:
        return {node.name: node for node in ast.parse(file.read()).body if isinstance(node, kind)}


def parameters(function):
    """Returns the names of a function's parameters, and whether one has a default value."""
    found = inspect.signature(function).parameters.values()
    return [one.name for one in found], any(one.default is not inspect.Parameter.empty for one in found)


class InterfaceTest(unittest.TestCase):

    def test_functions(self):
        for module, functions in FUNCTIONS.items():
            there = importlib.import_module("nonearer." + module)
            here = defined_in(module, ast.FunctionDef)
            for name, words in functions.items():
                self.assertIn(name, here)
                self.assertEqual(parameters(getattr(there, name)), (words.split(), False), name)

    def test_classes(self):
        for module, classes in CLASSES.items():
            there = importlib.import_module("nonearer." + module)
            here = defined_in(module, ast.ClassDef)
            for name, methods in classes.items():
                own = {node.name for node in here[name].body if isinstance(node, ast.FunctionDef)}
                for method, words in methods.items():
                    self.assertIn(method, own)
                    found = parameters(getattr(getattr(there, name), method))
                    self.assertEqual(found, (["self"] + words.split(), False), (name, method))

    def test_no_class_is_derived_from_another_but_errors(self):
        for module, classes in CLASSES.items():
            for name, node in defined_in(module, ast.ClassDef).items():
                self.assertTrue(module == "errors" or node.bases == [], name)

    def test_values(self):
        distances = importlib.import_module("nonearer.distances")
        self.assertEqual(distances.KINDS, ("square", "sum", "most", "unlike"))


if __name__ == "__main__":
    unittest.main()
