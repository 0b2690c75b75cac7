"""The package keeps to its small part of Python: what of that can be seen by walking its files."""

import ast
import builtins
import pathlib
import re
import unittest

PACKAGE = pathlib.Path(__file__).resolve().parent.parent / "heatcascades"
FILES = sorted(path for path in PACKAGE.rglob("*") if path.is_file() and "__pycache__" not in path.parts)

STATEMENTS = (
    ast.Assign, ast.AugAssign, ast.AnnAssign, ast.If, ast.While, ast.For, ast.Return, ast.Break, ast.Continue,
    ast.Pass, ast.Raise, ast.Try, ast.Expr, ast.FunctionDef, ast.ClassDef, ast.ImportFrom,
)
EXPRESSIONS = (
    ast.Constant, ast.Name, ast.List, ast.Tuple, ast.Dict, ast.Set, ast.BinOp, ast.UnaryOp, ast.BoolOp, ast.Compare,
    ast.IfExp, ast.Call, ast.Attribute, ast.Subscript, ast.Slice, ast.ListComp, ast.JoinedStr, ast.FormattedValue,
    ast.Lambda,
)
BUILTINS = (
    "len range enumerate zip min max sum abs sorted reversed int str bool list tuple dict set frozenset isinstance "
    "ord repr any all divmod Exception ValueError TypeError KeyError IndexError LookupError ZeroDivisionError "
    "ArithmeticError OverflowError RuntimeError NotImplementedError AttributeError StopIteration"
).split()
METHODS = (
    "append clear copy count endswith extend find get index insert isalnum isalpha isdigit islower isspace isupper "
    "items join keys ljust lower lstrip partition pop remove replace reverse rfind rjust rpartition rsplit rstrip "
    "setdefault split splitlines startswith strip update upper values zfill bit_length"
).split()
WORDS_LEFT_OUT = (
    "type typing typing_extensions enum Enum IntEnum StrEnum Flag IntFlag Generic Protocol ABC ABCMeta namedtuple "
    "NamedTuple TypedDict TYPE_CHECKING abstractmethod"
).split()
NAMES_LEFT_OUT = "register mro elements open input version_info with_traceback add_note".split()
DUNDERS = "__init__ __eq__ __repr__ __str__ __len__".split()


def bound_names(tree):
    """Every name that a file binds: its functions, classes, parameters and what it assigns."""
    for node in ast.walk(tree):
        if isinstance(node, (ast.FunctionDef, ast.ClassDef)):
            yield node.name
        elif isinstance(node, ast.arg):
            yield node.arg
        elif isinstance(node, ast.Name) and isinstance(node.ctx, ast.Store):
            yield node.id


def nodes(kinds):
    """Every node of these kinds in the package, each with the place where it stands."""
    for path in FILES:
        for node in ast.walk(ast.parse(path.read_text(encoding="utf-8"))):
            if isinstance(node, kinds):
                yield node, f"{path.name}:{getattr(node, 'lineno', 0)}"


class LanguageTest(unittest.TestCase):
    def test_the_files(self):
        self.assertIn(PACKAGE / "__init__.py", FILES)
        for path in FILES:
            with self.subTest(file=path.name):
                self.assertRegex(path.name, r"\A(__init__|__main__|[a-z][a-z0-9_]*)\.py\Z")
                self.assertNotIn(path.stem, dir(builtins))
                text = path.read_text(encoding="utf-8")
                self.assertRegex(text, r"\A[ -~\n]*\Z")
                self.assertLessEqual(len(text.splitlines()), 399)
                self.assertLessEqual(max(map(len, text.splitlines())), 120)
                words = re.findall(r"\w+", text)
                self.assertEqual([word for word in words if word in WORDS_LEFT_OUT], [])
                self.assertIsNone(re.search("dataclass|overload|contextmanager", text))

    def test_statements_and_expressions(self):
        for node, place in nodes((ast.stmt, ast.expr)):
            self.assertIsInstance(node, STATEMENTS + EXPRESSIONS, place)
        for node, place in nodes((ast.Assign, ast.For, ast.While)):
            self.assertEqual(len(getattr(node, "targets", [None])), 1, place)
            self.assertEqual(getattr(node, "orelse", []), [], place)

    def test_values_and_operators(self):
        for node, place in nodes(ast.Constant):
            self.assertIn(type(node.value), (int, str, bool, type(None)), place)
        for node, place in nodes((ast.BinOp, ast.AugAssign)):
            self.assertNotIsInstance(node.op, (ast.Div, ast.MatMult), place)
            if isinstance(node.op, ast.Pow):
                self.assertIsInstance(getattr(node, "right", None), ast.Constant, place)

    def test_imports_are_the_package_s_own(self):
        for node, place in nodes(ast.ImportFrom):
            self.assertEqual(node.level, 0, place)
            self.assertTrue(node.module.startswith("heatcascades."), place)
            self.assertNotIn("*", [name.name for name in node.names], place)

    def test_functions(self):
        for node, place in nodes(ast.FunctionDef):
            self.assertLessEqual(node.end_lineno - node.lineno + 1, 40, place)
            self.assertEqual(node.decorator_list, [], place)
            self.assertFalse(node.args.vararg or node.args.kwarg or node.args.kwonlyargs, place)

    def test_names(self):
        for path in FILES:
            for name in bound_names(ast.parse(path.read_text(encoding="utf-8"))):
                with self.subTest(file=path.name, name=name):
                    self.assertTrue(name in DUNDERS or not name.startswith("_"))
                    self.assertNotIn(name, dir(builtins))
        for node, place in nodes(ast.Name):
            self.assertTrue(node.id in BUILTINS or node.id not in dir(builtins), f"{place} {node.id}")
            self.assertNotIn(node.id, NAMES_LEFT_OUT, place)

    def test_methods(self):
        own = {node.name for node, place in nodes(ast.FunctionDef)}
        for node, place in nodes(ast.Call):
            if isinstance(node.func, ast.Attribute):
                self.assertIn(node.func.attr, own | set(METHODS) | set(DUNDERS), place)
        for node, place in nodes(ast.Attribute):
            self.assertNotIn(node.attr, NAMES_LEFT_OUT, place)


if __name__ == "__main__":
    unittest.main()
