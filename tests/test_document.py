"""The document itself, where it lies beside the repository: its examples, and the names that its interface lists."""

import ast
import doctest
import os
import re
import unittest

ROOT = os.path.dirname(os.path.dirname(os.path.abspath(__file__)))
DOCUMENT = os.path.join(os.path.dirname(ROOT), "shared", "DOC.md")


def listed():
    """Returns a dict from the files that the interface lists to `(name, methods)`, with `None` for a function."""
    with open(DOCUMENT, encoding="utf-8") as file:
        lines = file.read().split("# The interface")[1].split("\n")
    found = {}
    for line in lines:
        parts = re.fullmatch(r"- `nonearer/(\w+\.py)`: (.*)\.", line)
        if parts:
            # "class C with a, b, class D with c; d, e.": behind "with" stand methods, up to a class or a semicolon.
            names, methods = [], None
            for word in re.findall(r"class \w+(?: with)?|\w+|;", parts[2]):
                if word == ";":
                    methods = None
                elif word.startswith("class "):
                    methods = [] if word.endswith(" with") else None
                    names.append((word.split(" ")[1], methods if methods is not None else []))
                elif methods is not None:
                    methods.append(word)
                else:
                    names.append((word, None))
            found[parts[1]] = names
    return found


@unittest.skipUnless(os.path.exists(DOCUMENT), "the document is not here")
class DocumentTest(unittest.TestCase):

    def test_examples(self):
        failed, tried = doctest.testfile(DOCUMENT, module_relative=False)
        self.assertGreater(tried, 100)
        self.assertEqual(failed, 0)

    def test_the_interface(self):
        files = listed()
        self.assertGreater(len(files), 40)
        for file, names in files.items():
            with open(os.path.join(ROOT, "nonearer", file), encoding="ascii") as held:
                body = ast.parse(held.read()).body
            functions = {node.name for node in body if isinstance(node, ast.FunctionDef)}
            values = {node.targets[0].id for node in body if isinstance(node, ast.Assign)}
            classes = {node.name: {one.name for one in node.body if isinstance(one, ast.FunctionDef)}
                       for node in body if isinstance(node, ast.ClassDef)}
            for name, methods in names:
                if methods is not None or name[0].isupper() and not name.isupper():
                    self.assertLessEqual(set(methods or []), classes[name], (file, name))
                else:
                    self.assertIn(name, functions | values, file)


if __name__ == "__main__":
    unittest.main()
