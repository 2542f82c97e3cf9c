import unittest

from stonewalk.stones import can_cover, cover_from
from tests import graphs
from tests.graphs import LARGEST


class Answers(unittest.TestCase):
    def check(self, vertex_count, edges, answers):
        """The answers stand in the order of the vertices."""
        for vertex, answer in enumerate(answers):
            with self.subTest(vertex_count=vertex_count, edges=edges, vertex=vertex):
                self.assertEqual(cover_from(vertex_count, vertex, edges), [answer])

    def test_a_single_vertex(self):
        self.check(1, [], [1])

    def test_two_vertices(self):
        self.check(2, [0, 1], [1 + 2, 2 + 1])

    def test_three_vertices(self):
        self.check(3, graphs.PATH_3, [1 + 2 + 4, 2 + 1 + 2, 4 + 2 + 1])
        self.check(3, [0, 1, 0, 2], [5, 7, 7])
        self.check(3, [0, 2, 1, 2], [7, 7, 5])
        self.check(3, [0, 1, 0, 2, 1, 2], [5, 5, 5])

    def test_paths(self):
        self.check(4, graphs.PATH_4, [15, 9, 9, 15])
        self.check(5, graphs.PATH_5, [1 + 2 + 4 + 8 + 16, 17, 13, 17, 31])
        # The ends are 2 and 3, the order on the path is 2, 0, 4, 1, 3.
        self.check(5, [0, 2, 0, 4, 1, 3, 1, 4], [17, 17, 31, 31, 13])

    def test_cycles(self):
        self.check(4, graphs.CYCLE_4, [1 + 2 + 2 + 4] * 4)
        self.check(5, graphs.CYCLE_5, [1 + 2 * 2 + 2 * 4] * 5)

    def test_stars(self):
        self.check(5, graphs.STAR_5, [1 + 4 * 2] + [1 + 2 + 3 * 4] * 4)
        self.check(5, [0, 4, 1, 4, 2, 4, 3, 4], [15, 15, 15, 15, 9])

    def test_all_edges(self):
        for vertex_count in range(1, 6):
            edges = [end for pair in graphs.possible_pairs(vertex_count) for end in pair]
            self.check(vertex_count, edges, [2 * vertex_count - 1] * vertex_count)

    def test_of_several_paths_the_shortest_counts(self):
        # The way from 0 to 3 by 1 and 2 is longer than that by 4.
        self.check(5, [0, 1, 0, 4, 1, 2, 2, 3, 3, 4], [13, 13, 13, 13, 13])
        self.check(5, [0, 1, 0, 2, 0, 3, 0, 4, 1, 2, 2, 3, 3, 4], [9, 13, 11, 11, 13])
        self.check(4, [0, 1, 0, 3, 1, 2, 1, 3, 2, 3], [9, 7, 9, 7])

    def test_a_tail(self):
        self.check(5, [0, 1, 0, 2, 1, 2, 2, 3, 3, 4], [1 + 2 + 2 + 4 + 8, 17, 11, 13, 23])


class FoundInAnotherWay(unittest.TestCase):
    def test_every_vertex_of_every_graph(self):
        for vertex_count in range(1, 6):
            for edges in graphs.all_graphs(vertex_count):
                for vertex in range(vertex_count):
                    distances = graphs.slow_distances(vertex_count, edges, vertex)
                    answer = [-33]
                    if len(distances) == vertex_count:
                        answer = [sum(2 ** d for d in distances.values())]
                    self.assertEqual(cover_from(vertex_count, vertex, edges), answer, (vertex, edges))


class SingleStack(unittest.TestCase):
    """Point 3 of the document's requirements."""

    def test_it_covers_the_graph_from_the_cover_number_on(self):
        tried = 0
        for vertex_count, edges in graphs.connected_graphs():
            for vertex in range(vertex_count):
                fewest = cover_from(vertex_count, vertex, edges)[0]
                for held in range(13):
                    pebbles = [0] * vertex_count
                    pebbles[vertex] = held
                    answer = [1 if held >= fewest else 0]
                    self.assertEqual(can_cover(vertex_count, edges, pebbles), answer, (edges, pebbles))
                    tried += 1
        # So many connected graphs there are with one to five numbered vertices.
        self.assertEqual(tried, 13 * (1 * 1 + 2 * 1 + 3 * 4 + 4 * 38 + 5 * 728))


class Refusals(unittest.TestCase):
    NO_VERTICES = (5, 6, 7, 12, LARGEST - 1, LARGEST)

    def refused(self, vertex_count, vertex, edges, code):
        with self.subTest(vertex_count=vertex_count, vertex=vertex, edges=edges):
            self.assertEqual(cover_from(vertex_count, vertex, edges), [code])

    def test_wrong_graphs(self):
        for name, vertex_count, edges in graphs.WRONG_GRAPHS:
            for vertex in (0, max(vertex_count, 1) - 1):
                self.refused(vertex_count, vertex, edges, -22)

    def test_graphs_that_are_not_connected(self):
        for vertex_count, edges in graphs.NOT_CONNECTED:
            for vertex in range(vertex_count):
                self.refused(vertex_count, vertex, edges, -33)

    def test_a_vertex_that_does_not_exist(self):
        for vertex_count, edges in graphs.connected_graphs():
            self.refused(vertex_count, vertex_count, edges, -2)
            self.refused(vertex_count, LARGEST, edges, -2)
        self.refused(1, 1, [], -2)
        self.refused(1, 2, [], -2)
        self.refused(3, 4, graphs.PATH_3, -2)
        for vertex in self.NO_VERTICES:
            self.refused(5, vertex, graphs.COMPLETE_5, -2)

    def test_not_connected_and_no_such_vertex(self):
        for vertex_count, edges in graphs.NOT_CONNECTED:
            for vertex in (vertex_count,) + self.NO_VERTICES:
                self.refused(vertex_count, vertex, edges, -33)

    def test_a_wrong_graph_and_no_such_vertex(self):
        for name, vertex_count, edges in graphs.WRONG_GRAPHS:
            for vertex in (vertex_count, vertex_count + 1, 7, LARGEST):
                self.refused(vertex_count, min(vertex, LARGEST), edges, -22)

    def test_a_wrong_graph_that_is_not_connected(self):
        for vertex_count, edges in graphs.WRONG_AND_NOT_CONNECTED:
            for vertex in (0, vertex_count, LARGEST):
                self.refused(vertex_count, vertex, edges, -22)


if __name__ == "__main__":
    unittest.main()
