import unittest

from stonewalk.stones import is_solvable, optimal_configuration
from tests import graphs


class Answers(unittest.TestCase):
    def check(self, vertex_count, edges, answer):
        with self.subTest(vertex_count=vertex_count, edges=edges):
            self.assertEqual(optimal_configuration(vertex_count, edges), answer)

    def test_the_documents_example(self):
        self.check(3, [0, 1, 1, 2], [2, 0, 2, 0])

    def test_a_single_vertex(self):
        self.check(1, [], [1, 1])

    def test_no_edges(self):
        self.check(2, [], [2, 1, 1])
        self.check(3, [], [3, 1, 1, 1])
        self.check(4, [], [4, 1, 1, 1, 1])
        self.check(5, [], [5, 1, 1, 1, 1, 1])

    def test_a_graph_that_is_not_connected(self):
        self.check(3, [0, 1], [3, 0, 2, 1])
        self.check(3, [0, 2], [3, 0, 1, 2])
        self.check(3, [1, 2], [3, 1, 0, 2])
        self.check(4, [0, 1, 2, 3], [4, 0, 2, 0, 2])
        self.check(4, [0, 1, 1, 2], [3, 0, 2, 0, 1])
        self.check(5, [0, 4, 1, 3], [5, 0, 0, 1, 2, 2])

    def test_ties_go_to_the_first_in_lexicographic_order(self):
        # [1, 1] and [2, 0] do as well.
        self.check(2, [0, 1], [2, 0, 2])
        # Two pebbles on another vertex do as well.
        self.check(3, [0, 1, 0, 2, 1, 2], [2, 0, 0, 2])
        # [0, 2, 1, 0] and others do as well.
        self.check(4, graphs.PATH_4, [3, 0, 1, 2, 0])

    def test_five_vertices(self):
        self.check(5, graphs.PATH_5, [4, 0, 0, 4, 0, 0])
        self.check(5, graphs.STAR_5, [2, 2, 0, 0, 0, 0])
        self.check(5, [0, 4, 1, 4, 2, 4, 3, 4], [2, 0, 0, 0, 0, 2])

    def test_all_edges(self):
        for vertex_count in range(2, 6):
            edges = [end for pair in graphs.possible_pairs(vertex_count) for end in pair]
            self.check(vertex_count, edges, [2] + [0] * (vertex_count - 1) + [2])

    def test_paths_and_cycles_need_two_thirds_rounded_up(self):
        paths = [(1, []), (2, [0, 1]), (3, graphs.PATH_3), (4, graphs.PATH_4), (5, graphs.PATH_5)]
        cycles = [(3, [0, 1, 0, 2, 1, 2]), (4, graphs.CYCLE_4), (5, graphs.CYCLE_5)]
        for vertex_count, edges in paths + cycles:
            with self.subTest(vertex_count=vertex_count, edges=edges):
                count = optimal_configuration(vertex_count, edges)[0]
                self.assertEqual(count, (2 * vertex_count + 2) // 3)


class Optimality(unittest.TestCase):
    """Point 1 of the document's requirements, over every graph."""

    def every_graph(self):
        for vertex_count in range(1, 6):
            for edges in graphs.all_graphs(vertex_count):
                answer = optimal_configuration(vertex_count, edges)
                yield vertex_count, edges, answer[0], answer[1:]

    def test_the_answer_is_a_configuration_with_that_many_pebbles(self):
        for vertex_count, edges, count, pebbles in self.every_graph():
            self.assertEqual(len(pebbles), vertex_count, edges)
            self.assertEqual(sum(pebbles), count, edges)
            self.assertGreaterEqual(min(pebbles), 0, edges)

    def test_the_answer_is_solvable(self):
        for vertex_count, edges, count, pebbles in self.every_graph():
            self.assertTrue(graphs.SlowAnswers(vertex_count, edges).solvable(pebbles), edges)
            self.assertEqual(is_solvable(vertex_count, edges, pebbles), [1] * (vertex_count + 1), edges)

    def test_no_solvable_configuration_has_fewer_pebbles_or_stands_ahead(self):
        for vertex_count, edges, count, pebbles in self.every_graph():
            slow = graphs.SlowAnswers(vertex_count, edges)
            for fewer in range(count):
                for other in graphs.all_configurations(vertex_count, fewer):
                    self.assertFalse(slow.solvable(other), (edges, other))
            for other in graphs.all_configurations(vertex_count, count):
                if other < pebbles:
                    self.assertFalse(slow.solvable(other), (edges, other))

    def test_two_thirds_of_the_vertices_rounded_up_are_enough_if_connected(self):
        connected = 0
        for vertex_count, edges, count, pebbles in self.every_graph():
            if len(graphs.parts(vertex_count, edges)) == 1:
                connected += 1
                self.assertLessEqual(3 * count, 2 * vertex_count + 2, edges)
        # So many connected graphs there are with one to five numbered vertices.
        self.assertEqual(connected, 1 + 1 + 4 + 38 + 728)

    def test_the_parts_of_a_graph_add_up(self):
        for vertex_count, edges, count, pebbles in self.every_graph():
            for part in graphs.parts(vertex_count, edges):
                inside = sorted(part)
                renamed = [inside.index(end) for end in edges if end in part]
                held = [pebbles[vertex] for vertex in inside]
                self.assertEqual(optimal_configuration(len(inside), renamed), [sum(held)] + held, edges)


class Refusals(unittest.TestCase):
    def test_wrong_graphs(self):
        for name, vertex_count, edges in graphs.WRONG_GRAPHS:
            with self.subTest(name):
                self.assertEqual(optimal_configuration(vertex_count, edges), [-22])


if __name__ == "__main__":
    unittest.main()
