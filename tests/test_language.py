"""The package keeps to its part of Python: those rules that are easily seen in the code."""

import ast
import builtins
import pathlib
import re
import unittest

import tideskies

PACKAGE = pathlib.Path(tideskies.__file__).parent

NODES = """
Module FunctionDef ClassDef Return Assign AugAssign For While If Raise Try Pass Break Continue Expr ImportFrom alias
arguments arg Load Store Name Constant Attribute Subscript Slice Call keyword Compare BoolOp And Or UnaryOp Not USub
Invert BinOp Add Sub Mult FloorDiv Mod Pow BitAnd BitOr BitXor LShift RShift IfExp List Tuple Dict ListComp comprehension
JoinedStr FormattedValue Eq NotEq Lt LtE Gt GtE Is IsNot In NotIn ExceptHandler Lambda
""".split()

OWN_NAMES = """
len range enumerate zip min max sum abs sorted reversed int str bool list tuple dict set frozenset isinstance ord repr
any all divmod Exception ValueError TypeError KeyError IndexError LookupError ZeroDivisionError ArithmeticError
OverflowError RuntimeError NotImplementedError AttributeError StopIteration
""".split()

OWN_METHODS = """
append clear copy count endswith extend find get index insert isalnum isalpha isdigit islower isspace isupper items join
keys ljust lower lstrip partition pop remove replace reverse rfind rjust rpartition rsplit rstrip setdefault split
splitlines startswith strip update upper values zfill bit_length
""".split()

OUT = r"\b(type|typing|typing_extensions|enum|Enum|Flag|Generic|Protocol|ABC|namedtuple|register|open|input|elements)\b"


def bound_names(tree):
    for node in ast.walk(tree):
        if isinstance(node, ast.Name) and isinstance(node.ctx, ast.Store):
            yield node.id
        elif isinstance(node, ast.arg):
            yield node.arg
        elif isinstance(node, ast.ExceptHandler) and node.name:
            yield node.name
        elif isinstance(node, (ast.FunctionDef, ast.ClassDef)):
            yield node.name


class Language(unittest.TestCase):
    def setUp(self):
        self.files = {path: path.read_text("ascii") for path in sorted(PACKAGE.glob("*.py"))}
        self.trees = {path: ast.parse(text) for path, text in self.files.items()}

    def nodes(self, *sorts):
        for path, tree in self.trees.items():
            for node in ast.walk(tree):
                if isinstance(node, sorts):
                    yield f"{path.name}:{getattr(node, 'lineno', 0)}", node

    def test_files(self):
        others = [path.name for path in PACKAGE.iterdir() if path.suffix != ".py" and path.name != "__pycache__"]
        self.assertEqual(others, [])
        self.assertIn(PACKAGE / "__init__.py", self.files)

    def test_sizes_and_signs(self):
        for path, text in self.files.items():
            self.assertLessEqual(len(text.splitlines()), 400, path)
            for row in text.splitlines():
                self.assertLessEqual(len(row), 120, path)
                self.assertIsNone(re.search(r"[^ -~]", row), (path, row))
                self.assertIsNone(re.search(OUT, row), (path, row))
        for place, node in self.nodes(ast.FunctionDef):
            self.assertLessEqual(node.end_lineno - node.lineno + 1, 40, place)
            self.assertEqual(node.decorator_list, [], place)
            self.assertIsNone(node.args.vararg or node.args.kwarg, place)

    def test_nodes(self):
        for place, node in self.nodes(ast.AST):
            self.assertIn(node.__class__.__name__, NODES, place)
        for place, node in self.nodes(ast.Constant):
            self.assertIn(node.value.__class__, (int, str, bool, None.__class__), place)
        for place, node in self.nodes(ast.Assign):
            self.assertEqual(len(node.targets), 1, place)
        for place, node in self.nodes(ast.For, ast.While):
            self.assertEqual(node.orelse, [], place)
        for place, node in self.nodes(ast.Try):
            self.assertEqual(node.finalbody, [], place)

    def test_imports(self):
        for place, node in self.nodes(ast.ImportFrom):
            self.assertEqual(node.level, 0, place)
            self.assertRegex(node.module, r"^tideskies\.[a-z_]+$", place)
            self.assertEqual([each.name for each in node.names if each.asname or each.name == "*"], [], place)

    def test_names(self):
        for path, tree in self.trees.items():
            for bound in bound_names(tree):
                if bound != "__init__":
                    self.assertRegex(bound, r"^[A-Za-z][A-Za-z0-9_]*$", path)
                    self.assertFalse(hasattr(builtins, bound), (path, bound))
        for place, node in self.nodes(ast.Name):
            if hasattr(builtins, node.id):
                self.assertIn(node.id, OWN_NAMES, place)

    def test_methods(self):
        own = {node.name for place, node in self.nodes(ast.FunctionDef)}
        values = {node.attr for place, node in self.nodes(ast.Attribute) if isinstance(node.ctx, ast.Store)}
        called = {node.func.attr for place, node in self.nodes(ast.Call) if isinstance(node.func, ast.Attribute)}
        self.assertEqual(called - own - set(OWN_METHODS), set())
        methods = {each.name for place, node in self.nodes(ast.ClassDef) for each in node.body
                   if isinstance(each, ast.FunctionDef)}
        self.assertEqual(methods & values, set())
        taken = {name for sort in (str, int, list, dict, set, bytes, tuple) for name in vars(sort)}
        self.assertEqual((values | methods) & taken - {"count", "index", "__init__"}, set())

    def test_tops_are_plain(self):
        for path, tree in self.trees.items():
            for node in tree.body:
                if isinstance(node, ast.Assign):
                    ast.literal_eval(node.value)
                elif not (isinstance(node, ast.Expr) and node is tree.body[0]):
                    self.assertIsInstance(node, (ast.FunctionDef, ast.ClassDef, ast.ImportFrom), path)
