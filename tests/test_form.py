"""The package keeps to the part of the language it is written in, as far as its files show it plainly."""

import ast
import builtins
import re
import unittest
import warnings
from pathlib import Path

PACKAGE = Path(__file__).resolve().parent.parent / "halveline"
FILES = sorted(path for path in PACKAGE.rglob("*") if path.is_file() and "__pycache__" not in path.parts)

OWN_NAMES = set(
    "len range enumerate zip min max sum abs sorted reversed int str bool bytes list tuple dict set isinstance ord "
    "repr any all divmod Exception ValueError TypeError KeyError IndexError LookupError ZeroDivisionError "
    "ArithmeticError OverflowError RuntimeError NotImplementedError AttributeError StopIteration".split()
)
WORDS = re.compile(
    r"\b(type|typing|typing_extensions|enum|Enum|IntEnum|StrEnum|Flag|IntFlag|Generic|Protocol|ABC|ABCMeta|namedtuple"
    r"|NamedTuple|TypedDict|TYPE_CHECKING|abstractmethod)\b|dataclass|overload|contextmanager"
)
FORBIDDEN = (
    ast.GeneratorExp, ast.NamedExpr, ast.With, ast.Match, ast.Global, ast.Nonlocal, ast.Yield, ast.YieldFrom,
    ast.AsyncFunctionDef, ast.AsyncFor, ast.AsyncWith, ast.Await, ast.Div, ast.MatMult, ast.Import,
)
TREES = [ast.parse(path.read_text(), path.name) for path in FILES]
NODES = [node for tree in TREES for node in ast.walk(tree)]
METHODS = {"__init__", "__eq__", "__repr__", "__str__", "__len__"}


def bound_names(node):
    """The names that a node of the tree gives a meaning."""
    if isinstance(node, ast.Name) and isinstance(node.ctx, ast.Store):
        return [node.id]
    if isinstance(node, ast.arg):
        return [node.arg]
    if isinstance(node, (ast.FunctionDef, ast.ClassDef)):
        return [node.name]
    return []


class Form(unittest.TestCase):
    def test_only_plain_files(self):
        self.assertIn(PACKAGE / "__init__.py", FILES)
        for path in FILES:
            self.assertRegex(path.name, r"\A([a-z][a-z0-9_]*|__init__)\.py\Z")

    def test_signs_words_and_sizes(self):
        for path in FILES:
            with self.subTest(file=path.name):
                text = path.read_text()
                self.assertRegex(text, r"\A[ -~\n]*\Z")
                self.assertIsNone(WORDS.search(text))
                self.assertLessEqual(len(text.splitlines()), 400)
                self.assertLessEqual(max(map(len, text.splitlines())), 120)

    def test_python_reads_it_without_a_warning(self):
        for path in FILES:
            with warnings.catch_warnings():
                warnings.simplefilter("error")
                compile(path.read_text(), path.name, "exec")

    def test_imports_are_the_packages_own(self):
        for node in NODES:
            if isinstance(node, ast.ImportFrom):
                self.assertEqual((node.level, node.col_offset), (0, 0))
                package, name = node.module.split(".")
                self.assertEqual(package, "halveline")
                self.assertIn(PACKAGE / f"{name}.py", FILES)
                self.assertNotIn("*", [drawn.name for drawn in node.names])

    def test_no_forbidden_form(self):
        for node in NODES:
            self.assertNotIsInstance(node, FORBIDDEN)
            self.assertNotIsInstance(getattr(node, "value", None), (float, complex))
            self.assertFalse(getattr(node, "decorator_list", []))
            if isinstance(node, ast.FunctionDef):
                self.assertLessEqual(node.end_lineno - node.lineno + 1, 40, node.name)
            if isinstance(node, ast.arguments):
                self.assertFalse(node.vararg or node.kwarg or node.posonlyargs)

    def test_stars_are_given_and_is_stands_beside_none_and_truths(self):
        for node in NODES:
            if isinstance(node, ast.Starred):
                self.assertIsInstance(node.ctx, ast.Store)
            if isinstance(node, ast.Compare) and isinstance(node.ops[0], (ast.Is, ast.IsNot)):
                self.assertIn(getattr(node.comparators[0], "value", "no value"), (None, True, False))

    def test_sets_are_sorted_without_a_keyword(self):
        for node in NODES:
            if isinstance(node, ast.Call) and isinstance(node.func, ast.Name) and node.func.id == "sorted":
                first = node.args[0]
                called = isinstance(first, ast.Call) and getattr(first.func, "id", "") == "set"
                self.assertFalse(node.keywords and (called or isinstance(first, ast.SetComp)))

    def test_no_name_is_given_that_its_file_draws(self):
        for tree in TREES:
            nodes = list(ast.walk(tree))
            drawn = {part.name for node in nodes if isinstance(node, ast.ImportFrom) for part in node.names}
            given = {name for node in nodes for name in bound_names(node)}
            self.assertEqual(drawn & given, set())

    def test_no_name_is_a_method_and_a_value(self):
        classes = [node for node in NODES if isinstance(node, ast.ClassDef)]
        methods = {part.name for node in classes for part in node.body if isinstance(part, ast.FunctionDef)}
        values = {node.attr for node in NODES if isinstance(node, ast.Attribute) and isinstance(node.ctx, ast.Store)}
        self.assertEqual(methods & values, set())
        for name in (methods | values) - METHODS:
            for own in ("", b"", 0, [], (), {}, set()):
                self.assertFalse(hasattr(own, name), name)

    def test_names_are_drawn_from_the_files_that_define_them_and_in_no_ring(self):
        defined = {tree_name: {name for node in tree.body for name in bound_names(node)} | {
            target.id for node in tree.body if isinstance(node, ast.Assign) for target in node.targets
        } for tree_name, tree in zip([path.stem for path in FILES], TREES)}
        drawn = {}
        for path, tree in zip(FILES, TREES):
            rows = [node for node in tree.body if isinstance(node, ast.ImportFrom)]
            drawn[path.stem] = {node.module.split(".")[1] for node in rows}
            for node in rows:
                self.assertLessEqual({part.name for part in node.names}, defined[node.module.split(".")[1]])
        while drawn:
            free = [name for name, others in drawn.items() if not others & set(drawn)]
            self.assertTrue(free, drawn)
            drawn = {name: others for name, others in drawn.items() if name not in free}

    def test_names_are_plain_and_pythons_own_keep_their_meaning(self):
        for node in NODES:
            for name in bound_names(node):
                self.assertTrue(name in METHODS or not name.startswith("_"), name)
            if isinstance(node, ast.Name) and hasattr(builtins, node.id):
                self.assertIsInstance(node.ctx, ast.Load, node.id)
                self.assertIn(node.id, OWN_NAMES)


if __name__ == "__main__":
    unittest.main()
