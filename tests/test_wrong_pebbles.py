import unittest

from stonewalk.stones import can_cover, is_solvable
from tests import graphs
from tests.graphs import LARGEST


class ListsOfPebbles(unittest.TestCase):
    """What is_solvable and can_cover refuse: they check alike the graph and the list of pebbles."""

    def refused(self, vertex_count, edges, pebbles):
        for function in (is_solvable, can_cover):
            with self.subTest(function.__name__, vertex_count=vertex_count, edges=edges, pebbles=pebbles):
                self.assertEqual(function(vertex_count, edges, pebbles), [-22])

    def taken(self, vertex_count, edges, pebbles):
        for function in (is_solvable, can_cover):
            with self.subTest(function.__name__, vertex_count=vertex_count, edges=edges, pebbles=pebbles):
                self.assertIn(function(vertex_count, edges, pebbles)[0], (0, 1))

    def test_wrong_graphs(self):
        for name, vertex_count, edges in graphs.WRONG_GRAPHS:
            for pebbles in ([1] * min(vertex_count, 7), [], [0] * 7):
                self.refused(vertex_count, edges, pebbles)

    def test_pebbles_of_every_length(self):
        for vertex_count in range(1, 6):
            for length in range(8):
                if length == vertex_count:
                    self.taken(vertex_count, [], [1] * length)
                else:
                    self.refused(vertex_count, [], [1] * length)

    def test_every_sum(self):
        for vertex_count, edges in [(1, []), (3, graphs.PATH_3), (5, graphs.COMPLETE_5)]:
            for vertex in range(vertex_count):
                for held in range(20):
                    pebbles = [0] * vertex_count
                    pebbles[vertex] = held
                    if held <= 12:
                        self.taken(vertex_count, edges, pebbles)
                    else:
                        self.refused(vertex_count, edges, pebbles)

    def test_wrong_pebbles(self):
        for vertex_count, edges, pebbles in graphs.WRONG_PEBBLES:
            self.refused(vertex_count, edges, pebbles)

    def test_a_wrong_graph_and_wrong_pebbles(self):
        for name, vertex_count, edges in graphs.WRONG_GRAPHS:
            for pebbles in ([], [13], [LARGEST] * 7):
                self.refused(vertex_count, edges, pebbles)

    def test_the_graph_is_checked_ahead_of_the_pebbles(self):
        # The codes are alike, so the answer doesn't tell which error came first.
        for name, vertex_count, edges in graphs.WRONG_GRAPHS:
            self.refused(vertex_count, edges, graphs.Unread())


if __name__ == "__main__":
    unittest.main()
