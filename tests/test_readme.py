"""What README.md shows is what the program answers."""

import ast
import pathlib
import re
import unittest

from screenbeats import beats

README = pathlib.Path(__file__).resolve().parent.parent / "README.md"
EXAMPLE = re.compile(r"^(\w+)(\(.*\)) +# (\[.*\])$", re.MULTILINE)


class Examples(unittest.TestCase):
    def test_each_example(self):
        shown = set()
        for name, arguments, expected in EXAMPLE.findall(README.read_text()):
            given = vars(beats)[name](*ast.literal_eval(arguments[:-1] + ",)"))
            self.assertEqual(given, ast.literal_eval(expected), name + arguments)
            shown.add(name)
        self.assertEqual(shown, {"common", "joint", "meet", "overlap", "slowest", "lock"})


if __name__ == "__main__":
    unittest.main()
