"""The language of the package: the rules of LANGUAGE.md that can be seen in the code.

The checks are narrower than the rules where the package does not need all that these allow.
"""

import ast
import builtins
import keyword
import os
import re
import sys
import unittest
import warnings

PACKAGE = os.path.join(os.path.dirname(os.path.dirname(os.path.abspath(__file__))), "nonearer")
FILES = sorted(os.listdir(PACKAGE))

LIBRARY = {"heapq": {"heappush", "heappop", "heapify", "heapreplace", "heappushpop"},
           "math": {"gcd", "lcm", "isqrt", "comb", "perm", "factorial"},
           "itertools": {"product", "combinations", "permutations", "chain", "accumulate", "pairwise"}}

BUILTINS = set("""len range enumerate zip min max sum abs sorted reversed int str bool list tuple dict set isinstance ord
    repr any all divmod ValueError""".split())

METHODS = set("""append clear copy count endswith extend find get index insert isalnum isalpha isdigit islower isspace
    isupper items join keys ljust lower lstrip partition pop remove replace reverse rfind rjust rpartition rsplit rstrip
    setdefault split splitlines startswith strip update upper values zfill bit_length removeprefix removesuffix
    add discard""".split())

STATEMENTS = (ast.Assign, ast.AugAssign, ast.If, ast.While, ast.For, ast.Return, ast.Break, ast.Continue, ast.Pass,
              ast.Raise, ast.Assert, ast.Delete, ast.Try, ast.Expr, ast.FunctionDef, ast.ClassDef, ast.ImportFrom)

BARRED_NODES = (ast.GeneratorExp, ast.Yield, ast.YieldFrom, ast.Await, ast.Global, ast.Nonlocal, ast.NamedExpr,
                ast.Div, ast.SetComp, ast.AnnAssign, ast.Import, ast.MatMult)

BARRED_NAMES = set("""register mro elements open input law version_info with_traceback add_note attrgetter breakpoint
    builtins compile copyright credits delattr dir eval exec exit gc getattr globals hasattr help id importlib license
    locals methodcaller os quit setattr super type vars sys""".split())

BARRED_WORDS = set("""type typing typing_extensions enum Enum IntEnum StrEnum Flag IntFlag Generic Protocol ABC ABCMeta
    namedtuple NamedTuple TypedDict TYPE_CHECKING abstractmethod""".split())

KEYWORDS = {"sorted": {"key", "reverse"}, "min": {"key", "default"}, "max": {"key", "default"},
            "sum": {"start"}, "enumerate": {"start"}}


def source_of(file):
    """Returns the text of a file of the package."""
    with open(os.path.join(PACKAGE, file), "rb") as held:
        return held.read().decode("ascii")


TREES = {file: ast.parse(source_of(file)) for file in FILES if file.endswith(".py")}


def functions_in(tree):
    """Returns all functions and methods in a tree."""
    return [node for node in ast.walk(tree) if isinstance(node, ast.FunctionDef)]


def bound_names(tree):
    """Returns all names that a tree gives to something, but for attributes and methods."""
    names = [node.id for node in ast.walk(tree) if isinstance(node, ast.Name) and not isinstance(node.ctx, ast.Load)]
    names += [node.arg for node in ast.walk(tree) if isinstance(node, ast.arg)]
    return names + [node.name for node in ast.walk(tree) if isinstance(node, ast.ExceptHandler) and node.name]


def top_names(tree):
    """Returns the names that are bound at the top of a file, by the statements that bind them."""
    names = []
    for node in tree.body:
        if isinstance(node, ast.ImportFrom):
            names += [one.asname or one.name for one in node.names]
        elif isinstance(node, (ast.FunctionDef, ast.ClassDef)):
            names.append(node.name)
        elif isinstance(node, ast.Assign):
            names += [target.id for target in node.targets]
    return names


def is_docstring(node):
    """Returns whether a statement is a string alone."""
    return isinstance(node, ast.Expr) and isinstance(node.value, ast.Constant) and isinstance(node.value.value, str)


def strings_in(tree):
    """Returns all strings in a tree but docstrings."""
    told = {id(node.value) for node in ast.walk(tree) if is_docstring(node)}
    return [node.value for node in ast.walk(tree)
            if isinstance(node, ast.Constant) and isinstance(node.value, str) and id(node) not in told]


ERRORS = {node.name for node in TREES["errors.py"].body if isinstance(node, ast.ClassDef)}
OWN_METHODS = {node.name for tree in TREES.values() for one in ast.walk(tree) if isinstance(one, ast.ClassDef)
               for node in one.body if isinstance(node, ast.FunctionDef)}
OWN_ATTRIBUTES = {node.attr for tree in TREES.values() for node in ast.walk(tree)
                  if isinstance(node, ast.Attribute) and isinstance(node.ctx, ast.Store)}


class FilesTest(unittest.TestCase):

    def test_names_of_files(self):
        barred = BARRED_WORDS | set(dir(builtins)) | {"test", "tests", "testing", "site", "conftest"}
        for file in FILES:
            if file != "__pycache__":
                self.assertRegex(file, r"^(__init__|[a-z][a-z0-9_]*)\.py$")
                self.assertNotIn(file[:-3], barred)
        self.assertIn("__init__.py", FILES)
        self.assertLessEqual(len(FILES), 100)

    def test_sizes_and_characters(self):
        for file in TREES:
            lines = source_of(file).split("\n")
            self.assertLessEqual(len(lines), 400, file)
            for line in lines:
                self.assertLessEqual(len(line), 120, file)
                self.assertTrue(all(" " <= sign <= "~" for sign in line), file)
        for file, tree in TREES.items():
            for node in functions_in(tree):
                self.assertLessEqual(node.end_lineno - node.lineno + 1, 40, (file, node.name))

    def test_no_warnings(self):
        with warnings.catch_warnings():
            warnings.simplefilter("error")
            for file in TREES:
                compile(source_of(file), file, "exec")

    def test_imports(self):
        edges = {}
        for file, tree in TREES.items():
            found = [node for node in ast.walk(tree) if isinstance(node, ast.ImportFrom)]
            self.assertTrue(all(node in tree.body and node.level == 0 for node in found), file)
            for node in found:
                names = {one.name for one in node.names}
                self.assertTrue(all(one.asname is None for one in node.names))
                if node.module in LIBRARY:
                    self.assertLessEqual(names, LIBRARY[node.module])
                    continue
                self.assertTrue(node.module.startswith("nonearer."), node.module)
                target = node.module[len("nonearer."):] + ".py"
                edges.setdefault(file, set()).add(target)
                own = {one.name for one in TREES[target].body if isinstance(one, (ast.FunctionDef, ast.ClassDef))}
                own |= {one.targets[0].id for one in TREES[target].body if isinstance(one, ast.Assign)}
                self.assertLessEqual(names, own, file)
        self.check_no_circle(edges)

    def check_no_circle(self, edges):
        left = {file: set(edges.get(file, ())) for file in TREES}
        while left:
            free = [file for file in left if not left[file] & set(left)]
            self.assertTrue(free, left)
            left = {file: left[file] for file in left if file not in free}

    def test_all_imports_are_used(self):
        for file, tree in TREES.items():
            used = {node.id for node in ast.walk(tree) if isinstance(node, ast.Name)}
            for node in tree.body:
                if isinstance(node, ast.ImportFrom):
                    self.assertLessEqual({one.name for one in node.names}, used, file)


class ShapesTest(unittest.TestCase):

    def test_the_top_of_files(self):
        for file, tree in TREES.items():
            for at, node in enumerate(tree.body):
                if isinstance(node, ast.Assign):
                    self.assertTrue(len(node.targets) == 1 and isinstance(node.targets[0], ast.Name), file)
                    self.check_value(node.value, {one.name for one in tree.body[:at] if isinstance(one, ast.FunctionDef)})
                else:
                    self.assertTrue((at == 0 and is_docstring(node)) or
                                    isinstance(node, (ast.ImportFrom, ast.FunctionDef, ast.ClassDef)), file)
            names = top_names(tree)
            self.assertEqual(len(names), len(set(names)), file)

    def check_value(self, value, functions):
        """Asserts that what a module-level name is given is plain, or a dict of functions that stand above it."""
        if isinstance(value, ast.Dict) and any(isinstance(one, ast.Name) for one in value.values):
            self.assertTrue(all(isinstance(key, ast.Constant) for key in value.keys))
            self.assertTrue(all(isinstance(one, ast.Name) and one.id in functions for one in value.values))
        else:
            ast.literal_eval(value)

    def test_tables_of_functions_are_not_called_at_once(self):
        for file, tree in TREES.items():
            for node in ast.walk(tree):
                if isinstance(node, ast.Call):
                    self.assertIsInstance(node.func, (ast.Name, ast.Attribute), file)

    def test_statements_and_expressions(self):
        for file, tree in TREES.items():
            for node in ast.walk(tree):
                self.assertTrue(not isinstance(node, ast.stmt) or isinstance(node, STATEMENTS), (file, node))
                self.assertNotIsInstance(node, BARRED_NODES, file)
                if isinstance(node, ast.Expr):
                    self.assertTrue(is_docstring(node) or isinstance(node.value, ast.Call), file)
                if isinstance(node, ast.Constant):
                    self.assertNotIsInstance(node.value, (float, complex, bytes), file)
                if isinstance(node, (ast.FunctionDef, ast.ClassDef)):
                    self.assertEqual(node.decorator_list, [], file)
                if isinstance(node, ast.Compare):
                    for sign, other in zip(node.ops, node.comparators):
                        if isinstance(sign, (ast.Is, ast.IsNot)):
                            self.assertIsInstance(other, ast.Constant, file)
                            self.assertIn(str(other.value), ("None", "True", "False"), file)

    def test_functions(self):
        for file, tree in TREES.items():
            for node in functions_in(tree):
                self.assertIsNone(node.returns)
                self.assertTrue(is_docstring(node.body[0]) or node.name.startswith("_"), (file, node.name))
                self.assertEqual([one for one in functions_in(node) if one is not node], [], file)
                for default in node.args.defaults + [one for one in node.args.kw_defaults if one]:
                    ast.literal_eval(default)

    def test_classes(self):
        for file, tree in TREES.items():
            for node in ast.walk(tree):
                if isinstance(node, ast.ClassDef):
                    self.assertIn(node, tree.body)
                    self.assertTrue(all(isinstance(one, ast.FunctionDef) or is_docstring(one) for one in node.body))
                    methods = [one.name for one in node.body if isinstance(one, ast.FunctionDef)]
                    self.assertEqual(len(methods), len(set(methods)))
                    self.assertLessEqual({name for name in methods if name.startswith("__")}, {"__init__", "__eq__"})
                    attributes = {one.attr for one in ast.walk(node) if isinstance(one, ast.Attribute)
                                  and isinstance(one.ctx, ast.Store)}
                    self.assertEqual(attributes & set(methods), set())

    def test_errors_are_created_where_they_are_raised(self):
        for tree in TREES.values():
            for node in ast.walk(tree):
                if isinstance(node, ast.Raise) and node.exc is not None:
                    self.assertTrue(isinstance(node.exc, ast.Call) and isinstance(node.exc.func, ast.Name))
                if isinstance(node, ast.ExceptHandler):
                    errors = node.type.elts if isinstance(node.type, ast.Tuple) else [node.type]
                    self.assertTrue(all(isinstance(one, ast.Name) and one.id in ERRORS for one in errors))


class NamesTest(unittest.TestCase):

    def test_bound_names(self):
        for file, tree in TREES.items():
            imported = {one.name for node in tree.body if isinstance(node, ast.ImportFrom) for one in node.names}
            classes = {node.name for node in tree.body if isinstance(node, ast.ClassDef)}
            for name in bound_names(tree):
                self.assertNotIn(name, imported | classes, file)
            for name in set(bound_names(tree)) | set(top_names(tree)):
                # A doctest that ran before has left `_` among the builtins.
                self.assertNotIn(name, (set(dir(builtins)) - {"_"}) | BARRED_NAMES | BARRED_WORDS, file)
                self.assertRegex(name, r"^(_|_?[A-Za-z][A-Za-z0-9_]*)$")
                self.assertFalse(keyword.issoftkeyword(name) and name != "_", name)

    def test_methods_and_attributes(self):
        barred = {"register", "mro", "elements", "open", "input", "law", "format", "format_map", "args", "type"}
        taken = {name for kind in (str, int, list, dict, set, bytes) for name in dir(kind)} - METHODS
        for name in OWN_METHODS | OWN_ATTRIBUTES:
            self.assertNotIn(name, barred | (taken - {"__init__", "__eq__"}))
        for name in OWN_ATTRIBUTES:
            self.assertNotIn(name, METHODS - {"count", "index", "find", "get", "join", "copy", "add"})

    def test_names_that_are_read(self):
        for file, tree in TREES.items():
            known = BUILTINS | set(bound_names(tree)) | set(top_names(tree))
            for node in ast.walk(tree):
                if isinstance(node, ast.Name) and isinstance(node.ctx, ast.Load):
                    self.assertIn(node.id, known, file)
                    self.assertNotEqual(node.id, "_", file)
                if isinstance(node, ast.Attribute):
                    self.assertIn(node.attr, METHODS | OWN_METHODS | OWN_ATTRIBUTES, file)

    def test_library_names_are_only_called(self):
        names = set().union(*LIBRARY.values())
        for file, tree in TREES.items():
            called = {id(node.func) for node in ast.walk(tree) if isinstance(node, ast.Call) and not node.keywords}
            for node in ast.walk(tree):
                if isinstance(node, ast.Name) and node.id in names:
                    self.assertIn(id(node), called, file)


class CallsTest(unittest.TestCase):

    def test_keywords_of_builtins(self):
        for file, tree in TREES.items():
            for node in ast.walk(tree):
                if isinstance(node, ast.Call):
                    words = {one.arg for one in node.keywords}
                    if isinstance(node.func, ast.Name) and node.func.id in BUILTINS:
                        self.assertLessEqual(words, KEYWORDS.get(node.func.id, set()), file)
                    if isinstance(node.func, ast.Attribute) and node.func.attr in METHODS:
                        self.assertEqual(words, set(), file)

    def test_what_is_iterated_at_once(self):
        """Calls of `zip`, `enumerate`, `range` and `reversed`, and views, stand where they are iterated."""
        for file, tree in TREES.items():
            places = set()
            for node in ast.walk(tree):
                if isinstance(node, (ast.For, ast.comprehension)):
                    places.add(id(node.iter))
                elif isinstance(node, ast.Call) and isinstance(node.func, ast.Name) and node.args and \
                        node.func.id in ("list", "tuple", "dict", "sorted", "sum", "enumerate", "zip"):
                    places.add(id(node.args[0]))
            for node in ast.walk(tree):
                if isinstance(node, ast.Call):
                    name = getattr(node.func, "id", getattr(node.func, "attr", None))
                    if name in ("zip", "enumerate", "range", "reversed", "items", "keys", "values"):
                        self.assertIn(id(node), places, (file, node.lineno))

    def test_sets(self):
        for file, tree in TREES.items():
            inside = {id(node.args[0]) for node in ast.walk(tree) if isinstance(node, ast.Call) and node.args
                      and getattr(node.func, "id", None) in ("sorted", "len")}
            for node in ast.walk(tree):
                self.assertNotIsInstance(node, ast.Set, file)
                if isinstance(node, ast.Call) and getattr(node.func, "id", None) in ("set", "frozenset"):
                    self.assertIn(id(node), inside, file)

    def test_loops_do_not_change_what_they_iterate_over(self):
        for file, tree in TREES.items():
            for node in ast.walk(tree):
                if isinstance(node, ast.For) and isinstance(node.iter, ast.Name):
                    for one in ast.walk(node):
                        if isinstance(one, ast.Call) and isinstance(one.func, ast.Attribute):
                            self.assertNotEqual(getattr(one.func.value, "id", None), node.iter.id, file)


class TextsTest(unittest.TestCase):

    def test_strings(self):
        for file, tree in TREES.items():
            for text in strings_in(tree):
                self.assertNotIn("%", text, file)
                self.assertFalse(text.endswith(("._", ".__")) or text.startswith("__"), file)
                self.assertTrue("{" not in text and "}" not in text, file)
            for node in ast.walk(tree):
                if is_docstring(node):
                    self.assertNotIn("%", node.value.value, file)

    def test_escapes(self):
        for file in TREES:
            for found in re.findall(r"\\.", source_of(file)):
                self.assertIn(found, ("\\n", "\\t", "\\\\", "\\'", '\\"'), file)

    def test_words(self):
        for file, tree in TREES.items():
            code = ast.unparse(tree)
            for text in [node.value.value for node in ast.walk(tree) if is_docstring(node)]:
                code = code.replace(text, "")
            for word in re.findall(r"[A-Za-z_]+", code):
                self.assertNotIn(word, BARRED_WORDS, file)
            for word in ("dataclass", "overload", "contextmanager", "_wall", "_WallAttr"):
                self.assertNotIn(word, source_of(file), file)

    def test_the_two_pythons(self):
        self.assertGreaterEqual(sys.version_info[:2], (3, 11))


if __name__ == "__main__":
    unittest.main()
