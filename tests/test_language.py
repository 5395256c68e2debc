"""The package's files keep to the part of Python that they may use, as far as a test can see it."""

import ast
import builtins
import pathlib
import re
import unittest

PACKAGE = pathlib.Path(__file__).resolve().parent.parent / "heardcase"
FILES = sorted(PACKAGE.glob("*.py"))

BUILT_IN_NAMES = """len range enumerate zip min max sum abs sorted reversed int str bool list tuple dict set frozenset
isinstance ord repr any all divmod Exception ValueError TypeError KeyError IndexError LookupError ZeroDivisionError
ArithmeticError OverflowError RuntimeError NotImplementedError AttributeError StopIteration""".split()
METHODS = """append clear copy count endswith extend find get index insert isalnum isalpha isdigit islower isspace isupper
items join keys ljust lower lstrip partition pop remove replace reverse rfind rjust rpartition rsplit rstrip setdefault
split splitlines startswith strip update upper values zfill bit_length""".split()
NODES = """Module Expr Constant ImportFrom alias FunctionDef ClassDef arguments arg Return Assign AugAssign If While For
Break Continue Pass Raise Try ExceptHandler Call keyword Name Attribute Subscript Slice Load Store List Tuple Dict BinOp
UnaryOp BoolOp Compare IfExp ListComp comprehension JoinedStr FormattedValue Lambda Add Sub Mult FloorDiv Mod Pow BitAnd
BitOr BitXor LShift RShift Invert USub UAdd Not And Or Eq NotEq Lt LtE Gt GtE Is IsNot In NotIn""".split()
BANNED_WORDS = """type typing typing_extensions enum Enum IntEnum StrEnum Flag IntFlag Generic Protocol ABC ABCMeta
namedtuple NamedTuple TypedDict TYPE_CHECKING abstractmethod""".split()
BANNED_NAMES = """register mro elements open input version_info with_traceback add_note format format_map""".split()
CHANGES = "append clear extend insert pop remove reverse setdefault update".split()
KEYWORDS = {"sorted": ["key", "reverse"], "min": ["key", "default"], "max": ["key", "default"], "sum": ["start"],
            "enumerate": ["start"], "zip": ["strict"]}
TWO_UNDERSCORES = ["__init__", "__eq__", "__repr__", "__str__", "__len__"]


def all_bound_names(tree):
    for node in ast.walk(tree):
        if isinstance(node, ast.arg):
            yield node.arg
        elif isinstance(node, ast.Name) and isinstance(node.ctx, ast.Store):
            yield node.id
        elif isinstance(node, (ast.FunctionDef, ast.ClassDef)):
            yield node.name


def top_names(tree):
    """The names of a file's top: its values, functions, classes and imports."""
    names = []
    for node in tree.body:
        if isinstance(node, ast.ImportFrom):
            names += [alias.name for alias in node.names]
        elif isinstance(node, ast.Assign):
            names += [target.id for target in node.targets]
        elif isinstance(node, (ast.FunctionDef, ast.ClassDef)):
            names.append(node.name)
    return names


def root_of(node):
    """What an attribute or an index, or several of them, stand behind."""
    while isinstance(node, (ast.Attribute, ast.Subscript)):
        node = node.value
    return node


class LanguageTest(unittest.TestCase):
    def trees(self):
        for path in FILES:
            yield path.name, ast.parse(path.read_text(encoding="utf-8"))

    def test_there_are_files_and_nothing_else(self):
        self.assertIn(PACKAGE / "desk.py", FILES)
        self.assertIn(PACKAGE / "__init__.py", FILES)
        others = [path.name for path in PACKAGE.iterdir() if path not in FILES and path.name != "__pycache__"]
        self.assertEqual(others, [])

    def test_signs_and_sizes(self):
        for path in FILES:
            text = path.read_text(encoding="utf-8")
            rows = text.split("\n")
            self.assertLessEqual(len(rows), 400, path.name)
            self.assertLessEqual(max(len(row) for row in rows), 120, path.name)
            self.assertRegex(text, r"\A[ -~\n]*\Z", path.name)

    def test_functions_have_at_most_40_lines(self):
        for name, tree in self.trees():
            for node in ast.walk(tree):
                if isinstance(node, ast.FunctionDef):
                    self.assertLessEqual(node.end_lineno - node.lineno + 1, 40, (name, node.name))
                    self.assertEqual(node.decorator_list, [], (name, node.name))
                    self.assertIsNone(node.args.vararg or node.args.kwarg, (name, node.name))

    def test_only_known_forms(self):
        for name, tree in self.trees():
            for node in ast.walk(tree):
                self.assertIn(node.__class__.__name__, NODES, (name, getattr(node, "lineno", 0)))
                if isinstance(node, ast.Assign):
                    self.assertEqual(len(node.targets), 1, (name, node.lineno))
                if isinstance(node, (ast.For, ast.While)):
                    self.assertEqual(node.orelse, [], (name, node.lineno))
                if isinstance(node, ast.Constant):
                    self.assertIn(node.value.__class__, (int, str, bool, None.__class__), (name, node.lineno))

    def test_imports(self):
        for name, tree in self.trees():
            for node in ast.walk(tree):
                if isinstance(node, ast.ImportFrom):
                    self.assertEqual(node.level, 0, name)
                    self.assertRegex(node.module, r"\Aheardcase\.[a-z]+\Z", name)
                    source = ast.parse((PACKAGE / (node.module.split(".")[1] + ".py")).read_text(encoding="utf-8"))
                    for alias in node.names:
                        self.assertIn(alias.name, list(all_bound_names(source)), name)

    def test_names(self):
        for name, tree in self.trees():
            imported = [alias.name for node in ast.walk(tree) if isinstance(node, ast.ImportFrom)
                        for alias in node.names]
            bound = list(all_bound_names(tree))
            for word in bound:
                if word in TWO_UNDERSCORES:
                    continue
                self.assertRegex(word, r"\A[A-Za-z][A-Za-z0-9_]*\Z", name)
                self.assertNotIn(word, imported, name)
                self.assertFalse(hasattr(builtins, word), (name, word))
                self.assertNotIn(word, BANNED_NAMES, name)
            for node in ast.walk(tree):
                if isinstance(node, ast.Name) and node.id not in bound + imported:
                    self.assertIn(node.id, BUILT_IN_NAMES, (name, node.lineno))

    def test_attributes(self):
        values, methods = set(), set()
        for _, tree in self.trees():
            for node in ast.walk(tree):
                if isinstance(node, ast.ClassDef):
                    methods |= {part.name for part in node.body if isinstance(part, ast.FunctionDef)}
                if isinstance(node, ast.Attribute) and isinstance(node.ctx, ast.Store):
                    values.add(node.attr)
        self.assertEqual(values & methods, set())
        pythons = {word for kind in (str, int, list, dict, set, bytes, tuple) for word in dir(kind)}
        self.assertEqual((values | methods) & pythons - {"__init__"}, set())
        for name, tree in self.trees():
            for node in ast.walk(tree):
                if isinstance(node, ast.Attribute) and node.attr not in values | methods:
                    self.assertIn(node.attr, METHODS, (name, node.lineno))

    def test_values_are_given_through_a_local_name(self):
        for name, tree in self.trees():
            at_the_top = top_names(tree)
            for node in ast.walk(tree):
                if isinstance(node, (ast.Attribute, ast.Subscript)) and isinstance(node.ctx, ast.Store):
                    root = root_of(node)
                    self.assertIsInstance(root, ast.Name, (name, node.lineno))
                    self.assertNotIn(root.id, at_the_top, (name, node.lineno))
                if isinstance(node, ast.Call) and isinstance(node.func, ast.Attribute) and node.func.attr in CHANGES:
                    root = root_of(node.func)
                    self.assertIsInstance(root, ast.Name, (name, node.lineno))
                    self.assertNotIn(root.id, at_the_top, (name, node.lineno))

    def test_comprehensions_and_is(self):
        for name, tree in self.trees():
            for node in ast.walk(tree):
                if isinstance(node, ast.ListComp):
                    self.assertEqual(len(node.generators), 1, (name, node.lineno))
                    self.assertLessEqual(len(node.generators[0].ifs), 1, (name, node.lineno))
                if isinstance(node, ast.Compare) and isinstance(node.ops[0], (ast.Is, ast.IsNot)):
                    self.assertIsInstance(node.comparators[0], ast.Constant, (name, node.lineno))
                    self.assertIn(node.comparators[0].value, (None, True, False), (name, node.lineno))

    def test_python_s_own_are_called_where_they_stand(self):
        for name, tree in self.trees():
            called = [node.func for node in ast.walk(tree) if isinstance(node, ast.Call)]
            for node in ast.walk(tree):
                if isinstance(node, ast.Attribute) and node.attr in METHODS:
                    self.assertIn(node, called, (name, node.lineno))
                if isinstance(node, ast.Call) and node.keywords:
                    self.assertIsInstance(node.func, ast.Name, (name, node.lineno))
                    for keyword in node.keywords:
                        self.assertIn(keyword.arg, KEYWORDS.get(node.func.id, []), (name, node.lineno))

    def test_classes_are_not_handed_on(self):
        for name, tree in self.trees():
            classes = [node.name for _, other in self.trees() for node in other.body if isinstance(node, ast.ClassDef)]
            called = [node.func for node in ast.walk(tree) if isinstance(node, ast.Call)]
            for node in ast.walk(tree):
                if isinstance(node, ast.Name) and node.id in classes:
                    self.assertIn(node, called, (name, node.lineno))

    def test_words_that_stand_nowhere(self):
        for path in FILES:
            words = re.findall(r"[A-Za-z_]+", path.read_text(encoding="utf-8"))
            self.assertEqual([word for word in words if word in BANNED_WORDS], [], path.name)
            self.assertNotRegex(path.read_text(encoding="utf-8"), "dataclass|overload|contextmanager")

    def test_the_top_of_a_file_keeps_nothing_that_changes(self):
        for name, tree in self.trees():
            for node in tree.body:
                docstring = isinstance(node, ast.Expr) and isinstance(node.value, ast.Constant)
                known = isinstance(node, (ast.ImportFrom, ast.FunctionDef, ast.ClassDef))
                if not docstring and not known:
                    self.assertIsInstance(node, ast.Assign, (name, node.lineno))
                    # Fails if it is more than plain values.
                    ast.literal_eval(node.value)


if __name__ == "__main__":
    unittest.main()
