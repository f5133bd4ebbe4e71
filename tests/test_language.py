"""The package keeps to its part of Python, as far as a look at its text and its tree can tell."""

import ast
import builtins
import pathlib
import re
import unittest

PACKAGE = pathlib.Path(__file__).resolve().parent.parent / "leastparted"

BUILT_IN = set("""len range enumerate zip min max sum abs sorted reversed int str bool list tuple dict set frozenset
    isinstance ord repr any all divmod Exception ValueError TypeError KeyError IndexError LookupError
    ZeroDivisionError ArithmeticError OverflowError RuntimeError NotImplementedError AttributeError
    StopIteration""".split())

METHODS = set("""append clear copy count endswith extend find get index insert isalnum isalpha isdigit islower
    isspace isupper items join keys ljust lower lstrip partition pop remove replace reverse rfind rjust rpartition
    rsplit rstrip setdefault split splitlines startswith strip update upper values zfill bit_length""".split())

TWO_UNDERSCORES = {"__init__", "__eq__", "__repr__", "__str__", "__len__"}

WORDS = r"""\b(type|typing|typing_extensions|enum|Enum|IntEnum|StrEnum|Flag|IntFlag|Generic|Protocol|ABC|ABCMeta
    |namedtuple|NamedTuple|TypedDict|TYPE_CHECKING|abstractmethod)\b|dataclass|overload|contextmanager"""

NODES = (
    ast.Module, ast.FunctionDef, ast.ClassDef, ast.arguments, ast.arg, ast.Return, ast.Assign, ast.AugAssign, ast.For,
    ast.While, ast.If, ast.Raise, ast.Try, ast.ExceptHandler, ast.Expr, ast.Pass, ast.Break, ast.Continue, ast.BoolOp,
    ast.BinOp, ast.UnaryOp, ast.Lambda, ast.IfExp, ast.Dict, ast.ListComp, ast.comprehension, ast.Compare, ast.Call,
    ast.keyword, ast.FormattedValue, ast.JoinedStr, ast.Constant, ast.Attribute, ast.Subscript, ast.Slice, ast.Name,
    ast.List, ast.Tuple, ast.expr_context, ast.boolop, ast.operator, ast.unaryop, ast.cmpop,
)


def sources():
    return [(path, path.read_text(encoding="utf-8")) for path in sorted(PACKAGE.rglob("*.py"))]


def trees():
    return [(path, ast.parse(text)) for path, text in sources()]


def own_methods(tree):
    return {part.name for one in tree.body if isinstance(one, ast.ClassDef) for part in one.body
            if isinstance(part, ast.FunctionDef)}


class Language(unittest.TestCase):
    def test_files(self):
        there = [path for path in PACKAGE.iterdir() if path.name != "__pycache__"]
        self.assertEqual(sorted(path.name for path in there), ["__init__.py", "desk.py"])

    def test_signs_and_sizes(self):
        for path, text in sources():
            self.assertLessEqual(len(text.splitlines()), 400, path)
            for line in text.split("\n"):
                self.assertLessEqual(len(line), 120, (path, line))
                self.assertTrue(all(" " <= sign <= "~" for sign in line), (path, line))
            self.assertIsNone(re.search(WORDS, text, re.VERBOSE), path)

    def test_forms(self):
        for path, tree in trees():
            for node in ast.walk(tree):
                self.assertIsInstance(node, NODES, path)
                self.assertFalse(getattr(node, "decorator_list", []), path)
                self.assertFalse(isinstance(node, (ast.For, ast.While)) and node.orelse, path)
                self.assertNotIsInstance(node, (ast.Div, ast.MatMult), path)
                if isinstance(node, ast.Assign):
                    self.assertEqual(len(node.targets), 1, path)
                    self.assertIsInstance(node.targets[0], (ast.Name, ast.Attribute, ast.Subscript), path)
                if isinstance(node, ast.ListComp):
                    self.assertEqual(len(node.generators), 1, path)
                    self.assertLessEqual(len(node.generators[0].ifs), 1, path)
                if isinstance(node, ast.Constant):
                    self.assertIn(type(node.value), (int, str, bool, type(None)), path)
                if isinstance(node, ast.FunctionDef):
                    self.assertLessEqual(node.end_lineno - node.lineno + 1, 40, (path, node.name))

    def test_names(self):
        for path, tree in trees():
            for node in ast.walk(tree):
                if isinstance(node, ast.Name):
                    self.assertRegex(node.id, r"^[A-Za-z][A-Za-z0-9_]*$", path)
                    self.assertTrue(node.id in BUILT_IN or not hasattr(builtins, node.id), (path, node.id))
                    self.assertFalse(isinstance(node.ctx, ast.Store) and node.id in BUILT_IN, (path, node.id))
                if isinstance(node, ast.arg):
                    self.assertFalse(hasattr(builtins, node.arg), (path, node.arg))
                if isinstance(node, ast.FunctionDef) and node.name not in TWO_UNDERSCORES:
                    self.assertRegex(node.name, r"^[A-Za-z][A-Za-z0-9_]*$", path)

    def test_methods(self):
        for path, tree in trees():
            called = {node.func.attr for node in ast.walk(tree)
                      if isinstance(node, ast.Call) and isinstance(node.func, ast.Attribute)}
            self.assertLessEqual(called, METHODS | own_methods(tree), path)
            given = {node.attr for node in ast.walk(tree)
                     if isinstance(node, ast.Attribute) and isinstance(node.ctx, ast.Store)}
            self.assertFalse(given & own_methods(tree), path)

    def test_top_of_a_module(self):
        for path, tree in trees():
            names = []
            for one in tree.body:
                if isinstance(one, ast.Assign):
                    ast.literal_eval(one.value)
                    names.append(one.targets[0].id)
                elif isinstance(one, (ast.FunctionDef, ast.ClassDef)):
                    names.append(one.name)
                else:
                    self.assertIsInstance(one, ast.Expr, path)
                    self.assertIsInstance(one.value, ast.Constant, path)
            self.assertEqual(len(names), len(set(names)), path)
