import ast
import contextlib
import inspect
import io
import itertools
import pathlib
import unittest

from stonewalk import stones
from tests import graphs

PACKAGE = pathlib.Path(stones.__file__).parent

# For each function: the names of its arguments, and calls of it, good and wrong ones.
FUNCTIONS = {
    stones.is_solvable: (
        ["vertex_count", "edges", "pebbles"],
        [
            (1, [], [1]),
            (3, graphs.PATH_3, [2, 0, 0]),
            (5, graphs.COMPLETE_5, [3, 3, 3, 3, 0]),
            (5, graphs.PATH_5, [12, 0, 0, 0, 0]),
            (0, graphs.PATH_3, [2, 0, 0]),
            (3, [1, 0, 0, 1], [2, 0, 0]),
            (3, graphs.PATH_3, [2, 0]),
            (3, graphs.PATH_3, [13, 0, 0]),
        ],
    ),
    stones.optimal_configuration: (
        ["vertex_count", "edges"],
        [
            (1, []),
            (3, graphs.PATH_3),
            (5, graphs.COMPLETE_5),
            (5, [0, 4, 1, 3]),
            (0, graphs.PATH_3),
            (3, [1, 0, 0, 1]),
        ],
    ),
    stones.count_solvable: (
        ["vertex_count", "pebbles", "edges"],
        [
            (1, 0, []),
            (3, 2, graphs.PATH_3),
            (5, 6, graphs.COMPLETE_5),
            (5, 6, [0, 4, 1, 3]),
            (0, 2, graphs.PATH_3),
            (3, 2, [1, 0, 0, 1]),
            (3, 7, graphs.PATH_3),
        ],
    ),
    stones.can_cover: (
        ["vertex_count", "edges", "pebbles"],
        [
            (1, [], [0]),
            (3, graphs.PATH_3, [7, 0, 0]),
            (5, graphs.COMPLETE_5, [3, 3, 3, 3, 0]),
            (5, graphs.PATH_5, [12, 0, 0, 0, 0]),
            (0, graphs.PATH_3, [7, 0, 0]),
            (3, [1, 0, 0, 1], [7, 0, 0]),
            (3, graphs.PATH_3, [7, 0]),
            (3, graphs.PATH_3, [13, 0, 0]),
        ],
    ),
    stones.cover_from: (
        ["vertex_count", "vertex", "edges"],
        [
            (1, 0, []),
            (3, 1, graphs.PATH_3),
            (5, 4, graphs.COMPLETE_5),
            (0, 0, graphs.PATH_3),
            (3, 0, [1, 0, 0, 1]),
            (5, 0, [0, 4, 1, 3]),
            (3, 3, graphs.PATH_3),
        ],
    ),
    stones.cover_number: (
        ["vertex_count", "edges"],
        [
            (1, []),
            (3, graphs.PATH_3),
            (5, graphs.COMPLETE_5),
            (0, graphs.PATH_3),
            (3, [1, 0, 0, 1]),
            (5, [0, 4, 1, 3]),
        ],
    ),
}

ERRORS = [[-2], [-22], [-33]]

CALLS = [(function, call) for function, (names, calls) in FUNCTIONS.items() for call in calls]


class Calls(unittest.TestCase):
    def test_names_of_the_arguments(self):
        for function, (names, calls) in FUNCTIONS.items():
            with self.subTest(function.__name__):
                parameters = inspect.signature(function).parameters
                self.assertEqual(list(parameters), names)
                self.assertEqual({one.default for one in parameters.values()}, {inspect.Parameter.empty})

    def test_the_answer_is_a_list_of_whole_numbers(self):
        for function, call in CALLS:
            with self.subTest(function.__name__, call=call):
                answer = function(*call)
                self.assertIs(type(answer), list)
                self.assertEqual({type(number) for number in answer}, {int})

    def test_an_error_stands_alone_and_nothing_else_is_below_0(self):
        for function, call in CALLS:
            with self.subTest(function.__name__, call=call):
                answer = function(*call)
                self.assertTrue(answer in ERRORS or min(answer) >= 0)

    def test_what_is_handed_in_is_never_changed(self):
        for function, call in CALLS:
            with self.subTest(function.__name__, call=call):
                guarded = [graphs.Untouched(one) if isinstance(one, list) else one for one in call]
                function(*guarded)
                self.assertEqual(guarded, list(call))

    def test_nothing_is_kept_between_calls(self):
        before = [function(*call) for function, call in CALLS]
        for function, call in CALLS:
            answer = function(*call)
            answer[0] = 99
            answer.append(99)
        after = [function(*call) for function, call in reversed(CALLS)]
        self.assertEqual(before, after[::-1])

    def test_a_list_that_was_changed_in_between_is_read_anew(self):
        for function, call in CALLS:
            with self.subTest(function.__name__, call=call):
                answer = function(*call)
                again = [list(one) if isinstance(one, list) else one for one in call]
                for one in again:
                    if isinstance(one, list):
                        one.append(0)
                function(*again)
                for one in again:
                    if isinstance(one, list):
                        one.pop()
                self.assertEqual(function(*again), answer)

    def test_nothing_is_printed(self):
        printed = io.StringIO()
        with contextlib.redirect_stdout(printed), contextlib.redirect_stderr(printed):
            for function, call in CALLS:
                function(*call)
        self.assertEqual(printed.getvalue(), "")


class ShortEdges(unittest.TestCase):
    """Every list of up to four numbers is taken if it is a graph, and refused if not."""

    def check(self, taken):
        for vertex_count in range(1, 6):
            good = list(graphs.all_graphs(vertex_count))
            for length in range(5):
                for ends in itertools.product(range(vertex_count + 1), repeat=length):
                    edges = list(ends)
                    self.assertEqual(taken(vertex_count, edges), edges in good, (vertex_count, edges))

    def test_is_solvable(self):
        self.check(lambda n, edges: stones.is_solvable(n, edges, [0] * n) != [-22])

    def test_optimal_configuration(self):
        self.check(lambda n, edges: stones.optimal_configuration(n, edges) != [-22])

    def test_count_solvable(self):
        self.check(lambda n, edges: stones.count_solvable(n, 0, edges) != [-22])

    def test_can_cover(self):
        self.check(lambda n, edges: stones.can_cover(n, edges, [0] * n) != [-22])

    def test_cover_from(self):
        self.check(lambda n, edges: stones.cover_from(n, 0, edges) != [-22])

    def test_cover_number(self):
        self.check(lambda n, edges: stones.cover_number(n, edges) != [-22])


class Package(unittest.TestCase):
    def test_nothing_from_outside_is_imported_read_or_printed(self):
        for path in PACKAGE.glob("*.py"):
            with self.subTest(path.name):
                for node in ast.walk(ast.parse(path.read_text("utf-8"))):
                    self.assertNotIsInstance(node, ast.Import)
                    if isinstance(node, ast.ImportFrom):
                        self.assertTrue((node.module or "").startswith("stonewalk."))
                    if isinstance(node, ast.Name):
                        self.assertNotIn(node.id, ("print", "open", "input", "__import__", "exec", "eval"))


if __name__ == "__main__":
    unittest.main()
