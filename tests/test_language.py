"""The package keeps to the small part of Python that it's written in, as far as that can be seen in its text."""

import ast
import builtins
import re
import unittest
from pathlib import Path

PACKAGE = Path(__file__).resolve().parent.parent / "rangestream"
FILES = sorted(PACKAGE.glob("*.py"))

STATEMENTS = (
    ast.FunctionDef, ast.ClassDef, ast.ImportFrom, ast.Assign, ast.AugAssign, ast.If, ast.While, ast.For, ast.Return,
    ast.Break, ast.Continue, ast.Pass, ast.Raise, ast.Try, ast.Expr)
EXPRESSIONS = (
    ast.Constant, ast.List, ast.Tuple, ast.Dict, ast.BinOp, ast.UnaryOp, ast.BoolOp, ast.Compare, ast.IfExp, ast.Call,
    ast.Attribute, ast.Subscript, ast.Slice, ast.ListComp, ast.JoinedStr, ast.FormattedValue, ast.Name, ast.Lambda)
OWN_NAMES = set(
    "len range enumerate zip min max sum abs sorted reversed int str bool list tuple dict set frozenset isinstance ord "
    "repr any all divmod Exception ValueError TypeError KeyError IndexError LookupError ZeroDivisionError "
    "ArithmeticError OverflowError RuntimeError NotImplementedError AttributeError StopIteration".split())
OWN_METHODS = set(
    "append clear copy count endswith extend find get index insert isalnum isalpha isdigit islower isspace isupper "
    "items join keys ljust lower lstrip partition pop remove replace reverse rfind rjust rpartition rsplit rstrip "
    "setdefault split splitlines startswith strip update upper values zfill bit_length".split())
BANNED_WORDS = (
    r"\b(type|typing|typing_extensions|enum|Enum|IntEnum|StrEnum|Flag|IntFlag|Generic|Protocol|ABC|ABCMeta|namedtuple"
    r"|NamedTuple|TypedDict|TYPE_CHECKING|abstractmethod)\b|dataclass|overload|contextmanager")
BANNED_NAMES = set(
    "register mro elements open input version_info with_traceback add_note attrgetter breakpoint builtins compile "
    "copyright credits delattr dir eval exec exit gc getattr globals hasattr help id importlib license locals "
    "methodcaller os quit setattr super vars sys".split())
PLAIN_NAME = re.compile(r"[A-Za-z][A-Za-z0-9_]*\Z")


def bound_names(tree):
    """Every name that a file binds, wherever it does."""
    for node in ast.walk(tree):
        if isinstance(node, (ast.FunctionDef, ast.ClassDef)):
            yield node.name
        elif isinstance(node, ast.arg):
            yield node.arg
        elif isinstance(node, ast.Name) and isinstance(node.ctx, ast.Store):
            yield node.id
        elif isinstance(node, ast.Attribute) and isinstance(node.ctx, ast.Store):
            yield node.attr
        elif isinstance(node, ast.ExceptHandler) and node.name:
            yield node.name


class Language(unittest.TestCase):
    def setUp(self):
        self.texts = {path.name: path.read_text(encoding="utf-8") for path in FILES}
        self.trees = {name: ast.parse(text) for name, text in self.texts.items()}

    def each_node(self, *kinds):
        for name, tree in self.trees.items():
            for node in ast.walk(tree):
                if isinstance(node, kinds):
                    yield f"{name}, line {node.lineno}", node

    def test_files(self):
        lying = [path.name for path in PACKAGE.iterdir() if path.name != "__pycache__"]
        self.assertEqual(sorted(lying), sorted(self.texts))
        self.assertIn("__init__.py", lying)
        for name in lying:
            self.assertRegex(name, r"\A(__init__|[a-z][a-z0-9_]*)\.py\Z")
            self.assertNotIn(name[:-3], dir(builtins))

    def test_signs_and_sizes(self):
        for name, text in self.texts.items():
            with self.subTest(name):
                self.assertRegex(text, r"\A[ -~\n]*\Z")
                self.assertLessEqual(len(text.splitlines()), 400)
                self.assertLessEqual(max(map(len, text.splitlines())), 120)
                self.assertIsNone(re.search(BANNED_WORDS, text))

    def test_functions_are_short_and_plain(self):
        for where, node in self.each_node(ast.FunctionDef):
            with self.subTest(where):
                self.assertLessEqual(node.end_lineno - node.lineno + 1, 40)
                self.assertEqual(node.decorator_list, [])
                spec = node.args
                self.assertFalse(spec.vararg or spec.kwarg or spec.kwonlyargs or spec.posonlyargs)

    def test_statements_and_expressions(self):
        for where, node in self.each_node(ast.stmt):
            with self.subTest(where):
                self.assertIsInstance(node, STATEMENTS)
                if isinstance(node, ast.Assign):
                    self.assertEqual(len(node.targets), 1)
                    self.assertNotIsInstance(node.targets[0], (ast.Tuple, ast.List, ast.Starred))
                if isinstance(node, (ast.For, ast.While)):
                    self.assertEqual(node.orelse, [])
                if isinstance(node, ast.Try):
                    self.assertEqual(node.finalbody, [])
                    self.assertTrue(all(isinstance(taken.type, ast.Name) for taken in node.handlers))
        for where, node in self.each_node(ast.expr):
            with self.subTest(where):
                self.assertIsInstance(node, EXPRESSIONS)
                if isinstance(node, ast.Constant):
                    self.assertIn(type(node.value), (int, str, bool, type(None)))
                if isinstance(node, ast.BinOp):
                    self.assertNotIsInstance(node.op, (ast.Div, ast.MatMult))
                    if isinstance(node.op, ast.Pow):
                        self.assertIsInstance(node.right, ast.Constant)
                if isinstance(node, ast.Compare) and any(isinstance(op, (ast.Is, ast.IsNot)) for op in node.ops):
                    self.assertIn(getattr(node.comparators[0], "value", 0), (None, True, False))

    def test_imports(self):
        draws = {}
        for where, node in self.each_node(ast.ImportFrom):
            self.assertEqual(node.level, 0, where)
            self.assertRegex(node.module, r"\Arangestream\.[a-z]+\Z")
            source = node.module.split(".")[1] + ".py"
            for drawn in node.names:
                self.assertIsNone(drawn.asname)
                self.assertIn(drawn.name, bound_names(self.trees[source]))
            draws.setdefault(where.split(",")[0], set()).add(source)
        left = dict(draws)
        while left:
            free = [name for name in left if not left[name] & set(left)]
            self.assertNotEqual(free, [], "files that draw from one another")
            for name in free:
                del left[name]

    def test_the_top_of_a_file(self):
        for name, tree in self.trees.items():
            self.assertIsNotNone(ast.get_docstring(tree))
            allowed = (ast.ImportFrom, ast.FunctionDef, ast.ClassDef, ast.Assign)
            self.assertTrue(all(isinstance(node, allowed) for node in tree.body[1:]))
            plain = (ast.Constant, ast.Tuple, ast.List, ast.Dict, ast.Name, ast.expr_context)
            for value in [node.value for node in tree.body if isinstance(node, ast.Assign)]:
                self.assertTrue(all(isinstance(part, plain) for part in ast.walk(value)), name)
            top = [drawn.name for node in tree.body if isinstance(node, ast.ImportFrom) for drawn in node.names]
            top += [node.name for node in tree.body if isinstance(node, (ast.FunctionDef, ast.ClassDef))]
            top += [node.targets[0].id for node in tree.body if isinstance(node, ast.Assign)]
            self.assertEqual(len(top), len(set(top)))

    def test_names(self):
        for name, tree in self.trees.items():
            for bound in bound_names(tree):
                with self.subTest((name, bound)):
                    if bound != "__init__":
                        self.assertRegex(bound, PLAIN_NAME)
                    self.assertNotIn(bound, BANNED_NAMES)
                    self.assertNotIn(bound, dir(builtins))
        for where, node in self.each_node(ast.Name):
            with self.subTest(where):
                if node.id in dir(builtins):
                    self.assertIn(node.id, OWN_NAMES)
                self.assertNotIn(node.id, BANNED_NAMES)

    def test_methods_and_values(self):
        methods, values = set(), set()
        for where, node in self.each_node(ast.ClassDef):
            self.assertLessEqual(len(node.bases), 1, where)
            methods |= {item.name for item in node.body if isinstance(item, ast.FunctionDef)}
            attributes = [item for item in ast.walk(node) if isinstance(item, ast.Attribute)]
            values |= {item.attr for item in attributes if isinstance(item.ctx, ast.Store)}
        self.assertEqual(methods & values, set())
        taken = {word for kind in (str, int, list, dict, set, bytes) for word in dir(kind)}
        self.assertEqual(values & taken, set())
        self.assertEqual((methods & taken) - OWN_METHODS - {"__init__"}, set())
        for where, node in self.each_node(ast.Call):
            with self.subTest(where):
                if isinstance(node.func, ast.Attribute):
                    self.assertIn(node.func.attr, OWN_METHODS | methods)


if __name__ == "__main__":
    unittest.main()
