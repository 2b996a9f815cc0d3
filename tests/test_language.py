"""Whether the package's files keep to the part of Python that the program is written in."""

import ast
import builtins
import pathlib
import re
import unittest

PACKAGE = pathlib.Path(__file__).resolve().parent.parent / "agreed"

STATEMENTS = (
    ast.Assign, ast.AugAssign, ast.If, ast.While, ast.For, ast.Return, ast.Break, ast.Continue, ast.Pass,
    ast.Raise, ast.Try, ast.Expr, ast.FunctionDef, ast.ClassDef, ast.ImportFrom,
)
LEFT_OUT = (
    ast.SetComp, ast.DictComp, ast.GeneratorExp, ast.NamedExpr, ast.Starred, ast.Div, ast.MatMult, ast.Yield,
    ast.YieldFrom, ast.Await,
)
OWN_NAMES = set(
    "len range enumerate zip min max sum abs sorted reversed int str bool list tuple dict set frozenset isinstance"
    " ord repr any all divmod Exception ValueError TypeError KeyError IndexError LookupError ZeroDivisionError"
    " ArithmeticError OverflowError RuntimeError NotImplementedError StopIteration".split()
)
METHODS = set(
    "append clear copy count endswith extend find get index insert isalnum isalpha isdigit islower isspace isupper"
    " items join keys ljust lower lstrip partition pop remove replace reverse rfind rjust rpartition rsplit rstrip"
    " setdefault split splitlines startswith strip update upper values zfill bit_length".split()
)
WORDS = (
    r"\b(type|typing|typing_extensions|enum|Enum|IntEnum|StrEnum|Flag|IntFlag|Generic|Protocol|ABC|ABCMeta"
    r"|namedtuple|NamedTuple|TypedDict|TYPE_CHECKING|abstractmethod)\b|dataclass|overload|contextmanager"
)


def sources():
    return sorted(PACKAGE.rglob("*.py"))


def nodes():
    for path in sources():
        for node in ast.walk(ast.parse(path.read_text(encoding="utf-8"))):
            yield path.name, node


class Language(unittest.TestCase):
    def where(self, name, node):
        return f"{name}:{getattr(node, 'lineno', 0)}"

    def test_there_is_something_to_look_at(self):
        self.assertEqual([path.name for path in sources()], ["__init__.py", "terms.py"])

    def test_nothing_else_lies_in_the_package(self):
        for path in PACKAGE.iterdir():
            if path.name != "__pycache__":
                self.assertRegex(path.name, r"^[a-z0-9_]+\.py$")

    def test_signs_and_sizes(self):
        for path in sources():
            text = path.read_text(encoding="utf-8")
            self.assertRegex(text, r"\A[ -~\n]*\Z")
            self.assertLessEqual(text.count("\n"), 400)
            self.assertLessEqual(max(len(row) for row in text.split("\n")), 120)
            self.assertIsNone(re.search(WORDS, text))

    def test_length_of_functions(self):
        for name, node in nodes():
            if isinstance(node, ast.FunctionDef):
                self.assertLessEqual(node.end_lineno - node.lineno + 1, 40, self.where(name, node))

    def test_plain_parameters_and_no_decorators(self):
        for name, node in nodes():
            if isinstance(node, ast.FunctionDef):
                told = node.args
                self.assertEqual(node.decorator_list, [], self.where(name, node))
                self.assertEqual((told.vararg, told.kwarg, told.kwonlyargs, told.posonlyargs), (None, None, [], []))

    def test_imports_nothing_from_outside(self):
        for name, node in nodes():
            self.assertNotIsInstance(node, ast.Import, self.where(name, node))
            if isinstance(node, ast.ImportFrom):
                self.assertTrue(node.level == 0 and node.module.startswith("agreed."), self.where(name, node))

    def test_statements_and_expressions(self):
        for name, node in nodes():
            if isinstance(node, ast.stmt):
                self.assertIsInstance(node, STATEMENTS, self.where(name, node))
            if isinstance(node, (ast.For, ast.While)):
                self.assertEqual(node.orelse, [], self.where(name, node))
            if isinstance(node, ast.Assign):
                self.assertEqual(len(node.targets), 1, self.where(name, node))
                self.assertNotIsInstance(node.targets[0], (ast.Tuple, ast.List), self.where(name, node))
            if isinstance(node, ast.Constant):
                self.assertIsInstance(node.value, (int, str, type(None)), self.where(name, node))
            self.assertNotIsInstance(node, LEFT_OUT, self.where(name, node))

    def test_names(self):
        for name, node in nodes():
            if isinstance(node, ast.Name):
                self.assertRegex(node.id, r"^[A-Za-z][A-Za-z0-9_]*$", self.where(name, node))
                if hasattr(builtins, node.id):
                    self.assertIn(node.id, OWN_NAMES, self.where(name, node))
                    self.assertIsInstance(node.ctx, ast.Load, self.where(name, node))
            if isinstance(node, ast.arg):
                self.assertFalse(hasattr(builtins, node.arg), self.where(name, node))
            if isinstance(node, ast.Attribute):
                self.assertIn(node.attr, METHODS, self.where(name, node))


if __name__ == "__main__":
    unittest.main()
