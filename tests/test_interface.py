import ast
import contextlib
import inspect
import io
import pathlib
import unittest

from stonewalk import stones
from tests import graphs

PACKAGE = pathlib.Path(stones.__file__).parent


class Interface(unittest.TestCase):
    def test_names_of_the_arguments(self):
        names = {
            "is_solvable": ["vertex_count", "edges", "pebbles"],
        }
        for function, arguments in names.items():
            with self.subTest(function):
                parameters = inspect.signature(getattr(stones, function)).parameters
                self.assertEqual(list(parameters), arguments)
                self.assertEqual({one.default for one in parameters.values()}, {inspect.Parameter.empty})

    def test_nothing_from_outside_is_imported_read_or_printed(self):
        for path in PACKAGE.glob("*.py"):
            with self.subTest(path.name):
                for node in ast.walk(ast.parse(path.read_text("utf-8"))):
                    self.assertNotIsInstance(node, ast.Import)
                    if isinstance(node, ast.ImportFrom):
                        self.assertTrue((node.module or "").startswith("stonewalk."))
                    if isinstance(node, ast.Name):
                        self.assertNotIn(node.id, ("print", "open", "input", "__import__", "exec", "eval"))

    def test_nothing_is_printed(self):
        printed = io.StringIO()
        with contextlib.redirect_stdout(printed), contextlib.redirect_stderr(printed):
            stones.is_solvable(3, graphs.PATH_3, [2, 0, 0])
            stones.is_solvable(0, [], [])
        self.assertEqual(printed.getvalue(), "")


if __name__ == "__main__":
    unittest.main()
