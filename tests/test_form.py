"""The package's form: what of the language rules a look at its files can tell."""

import ast
import builtins
import inspect
import pathlib
import re
import unittest

from screenbeats import beats

ROOT = pathlib.Path(__file__).resolve().parent.parent
FILES = sorted((ROOT / "screenbeats").glob("*.py"))
BUILTINS = """len range enumerate zip min max sum abs sorted reversed int str bool list tuple dict set frozenset
isinstance ord repr any all divmod Exception ValueError TypeError KeyError IndexError LookupError ZeroDivisionError
ArithmeticError OverflowError RuntimeError NotImplementedError AttributeError StopIteration""".split()
WORDS = """type typing typing_extensions enum Enum IntEnum StrEnum Flag IntFlag Generic Protocol ABC ABCMeta namedtuple
NamedTuple TypedDict TYPE_CHECKING abstractmethod""".split()
BANNED = (
    ast.With, ast.Match, ast.Delete, ast.Global, ast.Nonlocal, ast.Assert, ast.Yield, ast.YieldFrom, ast.AsyncFunctionDef,
    ast.Await, ast.Div, ast.SetComp, ast.DictComp, ast.GeneratorExp, ast.NamedExpr, ast.Starred, ast.Set, ast.AnnAssign,
)


class Form(unittest.TestCase):
    def test_files(self):
        others = [f.name for f in (ROOT / "screenbeats").iterdir() if f not in FILES and f.name != "__pycache__"]
        self.assertEqual(others, [])
        self.assertIn("__init__.py", [f.name for f in FILES])

    def test_signs_and_sizes(self):
        for file in FILES:
            text = file.read_bytes().decode("ascii")
            self.assertEqual([sign for sign in text if not (" " <= sign <= "~" or sign == "\n")], [])
            rows = text.split("\n")
            self.assertLessEqual(len(rows), 400)
            self.assertLessEqual(max(len(row) for row in rows), 120)
            for word in WORDS:
                self.assertIsNone(re.search(rf"\b{word}\b", text), word)
            for word in ("dataclass", "overload", "contextmanager"):
                self.assertNotIn(word, text)

    def test_nothing_imported(self):
        for file in FILES:
            nodes = list(ast.walk(ast.parse(file.read_text())))
            self.assertEqual([n for n in nodes if isinstance(n, (ast.Import, ast.ImportFrom))], [])

    def test_statements_and_names(self):
        for file in FILES:
            for node in ast.walk(ast.parse(file.read_text())):
                self.assertNotIsInstance(node, BANNED)
                if isinstance(node, ast.FunctionDef):
                    self.assertLessEqual(node.end_lineno - node.lineno + 1, 40, node.name)
                    self.assertNotIn(node.name, dir(builtins))
                if isinstance(node, ast.arg):
                    self.assertNotIn(node.arg, dir(builtins))
                if isinstance(node, ast.Name) and node.id in dir(builtins):
                    self.assertIsInstance(node.ctx, ast.Load)
                    self.assertIn(node.id, BUILTINS)
                if isinstance(node, ast.Constant):
                    self.assertNotIsInstance(node.value, (float, bytes, complex))

    def test_interface(self):
        told = {
            "common": "(z)", "joint": "(z)", "meet": "(c, d, z)",
            "overlap": "(a, b, way, t, a2, b2, way2, t2, x, y)", "slowest": "(h, z)",
        }
        for name, arguments in told.items():
            self.assertEqual(str(inspect.signature(vars(beats)[name])), arguments, name)


if __name__ == "__main__":
    unittest.main()
