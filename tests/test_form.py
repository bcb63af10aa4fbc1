"""The package's form: what of the language rules a look at its files can tell."""

import ast
import builtins
import inspect
import pathlib
import re
import unittest

from screenbeats import beats

ROOT = pathlib.Path(__file__).resolve().parent.parent
FILES = sorted((ROOT / "screenbeats").glob("*.py"))
BUILTINS = """len range enumerate zip min max sum abs sorted reversed int str bool list tuple dict set frozenset
isinstance ord repr any all divmod Exception ValueError TypeError KeyError IndexError LookupError ZeroDivisionError
ArithmeticError OverflowError RuntimeError NotImplementedError AttributeError StopIteration""".split()
WORDS = """type typing typing_extensions enum Enum IntEnum StrEnum Flag IntFlag Generic Protocol ABC ABCMeta namedtuple
NamedTuple TypedDict TYPE_CHECKING abstractmethod""".split()
METHODS = """append clear copy count endswith extend find get index insert isalnum isalpha isdigit islower isspace
isupper items join keys ljust lower lstrip partition pop remove replace reverse rfind rjust rpartition rsplit rstrip
setdefault split splitlines startswith strip update upper values zfill bit_length""".split()
BANNED = (
    ast.With, ast.Match, ast.Delete, ast.Global, ast.Nonlocal, ast.Assert, ast.Yield, ast.YieldFrom,
    ast.AsyncFunctionDef, ast.AsyncFor, ast.AsyncWith, ast.Await, ast.Div, ast.SetComp, ast.DictComp, ast.GeneratorExp,
    ast.NamedExpr, ast.Starred, ast.Set, ast.AnnAssign,
)


class Form(unittest.TestCase):
    def test_files(self):
        others = [f.name for f in (ROOT / "screenbeats").iterdir() if f not in FILES and f.name != "__pycache__"]
        self.assertEqual(others, [])
        self.assertIn("__init__.py", [f.name for f in FILES])

    def test_signs_and_sizes(self):
        for file in FILES:
            text = file.read_bytes().decode("ascii")
            self.assertEqual([sign for sign in text if not (" " <= sign <= "~" or sign == "\n")], [])
            rows = text.split("\n")
            self.assertLessEqual(len(rows), 400)
            self.assertLessEqual(max(len(row) for row in rows), 120)
            for word in WORDS:
                self.assertIsNone(re.search(rf"\b{word}\b", text), word)
            for word in ("dataclass", "overload", "contextmanager"):
                self.assertNotIn(word, text)

    def test_nothing_imported(self):
        for file in FILES:
            nodes = list(ast.walk(ast.parse(file.read_text())))
            self.assertEqual([n for n in nodes if isinstance(n, (ast.Import, ast.ImportFrom))], [])

    def test_statements_and_names(self):
        for file in FILES:
            for node in ast.walk(ast.parse(file.read_text())):
                self.assertNotIsInstance(node, BANNED)
                if isinstance(node, ast.FunctionDef):
                    self.assertLessEqual(node.end_lineno - node.lineno + 1, 40, node.name)
                    self.assertNotIn(node.name, dir(builtins))
                if isinstance(node, ast.arg):
                    self.assertNotIn(node.arg, dir(builtins))
                if isinstance(node, ast.Name) and node.id in dir(builtins):
                    self.assertIsInstance(node.ctx, ast.Load)
                    self.assertIn(node.id, BUILTINS)
                if isinstance(node, ast.Constant):
                    self.assertNotIsInstance(node.value, (float, bytes, complex))

    def test_tops_of_files(self):
        for file in FILES:
            top = ast.parse(file.read_text()).body
            self.assertIsInstance(top[0], ast.Expr)
            names = []
            for node in top[1:]:
                self.assertIsInstance(node, (ast.FunctionDef, ast.ClassDef, ast.Assign))
                names.append(node.targets[0].id if isinstance(node, ast.Assign) else node.name)
            self.assertEqual(len(names), len(set(names)))

    def test_plain_forms(self):
        for file in FILES:
            nodes = list(ast.walk(ast.parse(file.read_text())))
            own = [node.name for node in nodes if isinstance(node, ast.FunctionDef)]
            for node in nodes:
                if isinstance(node, ast.Assign):
                    self.assertEqual(len(node.targets), 1)
                    self.assertNotIsInstance(node.targets[0], (ast.Tuple, ast.List))
                if isinstance(node, (ast.For, ast.While)):
                    self.assertEqual(node.orelse, [])
                if isinstance(node, ast.ListComp):
                    self.assertEqual(len(node.generators), 1)
                    self.assertLessEqual(len(node.generators[0].ifs), 1)
                if isinstance(node, (ast.FunctionDef, ast.ClassDef)):
                    self.assertEqual(node.decorator_list, [])
                    self.assertTrue(node.name == "__init__" or not node.name.startswith("_"))
                if isinstance(node, ast.Name):
                    self.assertFalse(node.id.startswith("_"))
                if isinstance(node, ast.Call) and isinstance(node.func, ast.Attribute):
                    self.assertIn(node.func.attr, METHODS + own)
                if isinstance(node, ast.Compare) and any(isinstance(op, (ast.Is, ast.IsNot)) for op in node.ops):
                    self.assertIsInstance(node.comparators[0], ast.Constant)

    def test_interface(self):
        told = {
            "common": "(z)", "joint": "(z)", "meet": "(c, d, z)",
            "overlap": "(a, b, way, t, a2, b2, way2, t2, x, y)", "slowest": "(h, z)", "lock": "(h, z)",
        }
        for name, arguments in told.items():
            self.assertEqual(str(inspect.signature(vars(beats)[name])), arguments, name)


if __name__ == "__main__":
    unittest.main()
