import unittest

from stonewalk.stones import is_solvable
from tests import graphs


class Answers(unittest.TestCase):
    def check(self, vertex_count, edges, pebbles, answer):
        with self.subTest(vertex_count=vertex_count, edges=edges, pebbles=pebbles):
            self.assertEqual(is_solvable(vertex_count, edges, pebbles), answer)

    def test_the_documents_example(self):
        self.check(3, [0, 1, 1, 2], [2, 0, 0], [0, 1, 1, 0])

    def test_the_documents_optimal_configuration_is_solvable(self):
        self.check(3, [0, 1, 1, 2], [0, 2, 0], [1, 1, 1, 1])

    def test_a_single_vertex(self):
        self.check(1, [], [0], [0, 0])
        self.check(1, [], [1], [1, 1])
        self.check(1, [], [2], [1, 1])
        self.check(1, [], [12], [1, 1])

    def test_two_vertices(self):
        self.check(2, [0, 1], [0, 0], [0, 0, 0])
        self.check(2, [0, 1], [1, 0], [0, 1, 0])
        self.check(2, [0, 1], [2, 0], [1, 1, 1])
        self.check(2, [0, 1], [0, 2], [1, 1, 1])
        self.check(2, [0, 1], [1, 1], [1, 1, 1])

    def test_no_edges(self):
        self.check(3, [], [5, 0, 1], [0, 1, 0, 1])
        self.check(3, [], [1, 1, 1], [1, 1, 1, 1])
        self.check(5, [], [0, 0, 12, 0, 0], [0, 0, 0, 1, 0, 0])
        self.check(5, [], [1, 1, 1, 1, 1], [1, 1, 1, 1, 1, 1])

    def test_no_pebbles(self):
        self.check(3, graphs.PATH_3, [0, 0, 0], [0, 0, 0, 0])
        self.check(5, graphs.COMPLETE_5, [0, 0, 0, 0, 0], [0, 0, 0, 0, 0, 0])

    def test_a_graph_that_is_not_connected(self):
        self.check(4, [0, 1, 2, 3], [2, 0, 0, 0], [0, 1, 1, 0, 0])
        self.check(4, [0, 1, 2, 3], [2, 0, 0, 2], [1, 1, 1, 1, 1])
        self.check(5, [0, 4, 1, 3], [12, 0, 0, 0, 0], [0, 1, 0, 0, 0, 1])
        self.check(5, [0, 4, 1, 3], [4, 4, 4, 0, 0], [1, 1, 1, 1, 1, 1])

    def test_each_step_along_a_path_halves_the_pebbles(self):
        self.check(5, graphs.PATH_5, [1, 0, 0, 0, 0], [0, 1, 0, 0, 0, 0])
        self.check(5, graphs.PATH_5, [2, 0, 0, 0, 0], [0, 1, 1, 0, 0, 0])
        self.check(5, graphs.PATH_5, [3, 0, 0, 0, 0], [0, 1, 1, 0, 0, 0])
        self.check(5, graphs.PATH_5, [4, 0, 0, 0, 0], [0, 1, 1, 1, 0, 0])
        self.check(5, graphs.PATH_5, [7, 0, 0, 0, 0], [0, 1, 1, 1, 0, 0])
        self.check(5, graphs.PATH_5, [7, 1, 0, 0, 0], [0, 1, 1, 1, 1, 0])
        self.check(5, graphs.PATH_5, [8, 0, 0, 0, 0], [0, 1, 1, 1, 1, 0])

    def test_a_sum_of_twelve(self):
        self.check(5, graphs.PATH_5, [12, 0, 0, 0, 0], [0, 1, 1, 1, 1, 0])
        self.check(5, graphs.PATH_5, [11, 0, 1, 0, 0], [0, 1, 1, 1, 1, 0])
        self.check(5, graphs.PATH_5, [10, 0, 1, 0, 1], [1, 1, 1, 1, 1, 1])
        self.check(5, graphs.PATH_5, [8, 0, 2, 2, 0], [1, 1, 1, 1, 1, 1])
        self.check(5, graphs.PATH_5, [0, 0, 12, 0, 0], [1, 1, 1, 1, 1, 1])
        self.check(5, graphs.COMPLETE_5, [2, 2, 2, 3, 3], [1, 1, 1, 1, 1, 1])

    def test_five_vertices_and_all_edges(self):
        self.check(5, graphs.COMPLETE_5, [0, 0, 0, 0, 1], [0, 0, 0, 0, 0, 1])
        self.check(5, graphs.COMPLETE_5, [1, 1, 1, 1, 0], [0, 1, 1, 1, 1, 0])
        self.check(5, graphs.COMPLETE_5, [0, 0, 0, 2, 0], [1, 1, 1, 1, 1, 1])

    def test_moves_from_several_vertices_add_up(self):
        self.check(5, graphs.STAR_5, [0, 2, 2, 0, 0], [1, 1, 1, 1, 1, 1])
        self.check(5, graphs.STAR_5, [0, 3, 1, 0, 0], [0, 1, 1, 1, 0, 0])
        self.check(5, graphs.STAR_5, [0, 4, 0, 0, 0], [1, 1, 1, 1, 1, 1])

    def test_cycles(self):
        self.check(4, graphs.CYCLE_4, [3, 0, 0, 0], [0, 1, 1, 0, 1])
        self.check(4, graphs.CYCLE_4, [4, 0, 0, 0], [1, 1, 1, 1, 1])
        self.check(5, graphs.CYCLE_5, [3, 0, 1, 0, 0], [0, 1, 1, 1, 0, 1])
        self.check(5, graphs.CYCLE_5, [4, 0, 0, 0, 0], [1, 1, 1, 1, 1, 1])

    def test_each_vertex_has_its_own_sequence_of_moves(self):
        # No single sequence reaches both ends.
        self.check(3, graphs.PATH_3, [0, 2, 0], [1, 1, 1, 1])
        self.check(5, graphs.PATH_5, [0, 0, 4, 0, 0], [1, 1, 1, 1, 1, 1])

    def test_every_graph_up_to_four_vertices(self):
        for vertex_count in range(1, 5):
            for edges in graphs.all_graphs(vertex_count):
                self.compare(vertex_count, edges, range(0, 7))

    def test_every_graph_of_five_vertices(self):
        for edges in graphs.all_graphs(5):
            self.compare(5, edges, range(1, 4))

    def test_all_numbers_of_pebbles(self):
        for edges in [[], graphs.PATH_4, graphs.CYCLE_4, [0, 1, 2, 3], [0, 3, 1, 2, 1, 3]]:
            self.compare(4, edges, range(7, 13))

    def compare(self, vertex_count, edges, counts):
        slow = graphs.SlowAnswers(vertex_count, edges)
        for count in counts:
            for pebbles in graphs.all_configurations(vertex_count, count):
                marks = slow.reachable(pebbles)
                answer = [min(marks)] + marks
                if is_solvable(vertex_count, edges, pebbles) != answer:
                    self.check(vertex_count, edges, pebbles, answer)

    def test_paths_by_their_closed_form(self):
        for pebbles in graphs.all_configurations(5, 12):
            marks = [self.gathered(pebbles, vertex) for vertex in range(5)]
            self.check(5, graphs.PATH_5, pebbles, [min(marks)] + marks)

    def gathered(self, pebbles, vertex):
        """On a path all pebbles are best sent straight to the vertex, from both sides."""
        from_below = from_above = 0
        for below in range(vertex):
            from_below = (from_below + pebbles[below]) // 2
        for above in range(len(pebbles) - 1, vertex, -1):
            from_above = (from_above + pebbles[above]) // 2
        return min(1, pebbles[vertex] + from_below + from_above)

    def test_all_edges_by_their_closed_form(self):
        for count in (1, 4, 5, 6):
            for pebbles in graphs.all_configurations(5, count):
                marks = [1 if max(pebbles) >= 2 else held for held in pebbles]
                self.check(5, graphs.COMPLETE_5, pebbles, [min(marks)] + marks)


if __name__ == "__main__":
    unittest.main()
