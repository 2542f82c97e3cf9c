import itertools
import unittest

from stonewalk.stones import can_cover, cover_from, cover_number
from tests import graphs


class Answers(unittest.TestCase):
    def check(self, vertex_count, edges, answer):
        with self.subTest(vertex_count=vertex_count, edges=edges):
            self.assertEqual(cover_number(vertex_count, edges), [answer])

    def test_the_documents_examples(self):
        self.check(3, [0, 1, 1, 2], 7)
        self.check(3, [0, 1], -33)

    def test_a_single_vertex(self):
        self.check(1, [], 1)

    def test_two_vertices(self):
        self.check(2, [0, 1], 3)

    def test_paths_take_most_from_an_end(self):
        self.check(4, graphs.PATH_4, 15)
        self.check(5, graphs.PATH_5, 31)
        # The ends are in the middle of the list, and on one of its ends.
        self.check(3, [0, 1, 0, 2], 7)
        self.check(3, [0, 2, 1, 2], 7)
        self.check(4, [0, 1, 0, 3, 2, 3], 15)
        self.check(5, [0, 2, 0, 4, 1, 3, 1, 4], 31)

    def test_every_way_to_number_a_path(self):
        for order in itertools.permutations(range(5)):
            pairs = sorted(sorted(step) for step in zip(order, order[1:]))
            self.check(5, [end for pair in pairs for end in pair], 31)

    def test_cycles(self):
        self.check(3, [0, 1, 0, 2, 1, 2], 5)
        self.check(4, graphs.CYCLE_4, 9)
        self.check(5, graphs.CYCLE_5, 13)

    def test_stars_take_most_from_a_tip(self):
        self.check(4, [0, 1, 0, 2, 0, 3], 1 + 2 + 2 * 4)
        self.check(5, graphs.STAR_5, 1 + 2 + 3 * 4)
        self.check(5, [0, 4, 1, 4, 2, 4, 3, 4], 15)
        self.check(5, [0, 2, 1, 2, 2, 3, 2, 4], 15)

    def test_all_edges(self):
        for vertex_count in range(1, 6):
            edges = [end for pair in graphs.possible_pairs(vertex_count) for end in pair]
            self.check(vertex_count, edges, 2 * vertex_count - 1)

    def test_a_tail(self):
        self.check(4, [0, 1, 0, 2, 1, 2, 2, 3], 1 + 2 + 4 + 4)
        self.check(5, [0, 1, 0, 2, 1, 2, 2, 3, 3, 4], 1 + 2 + 4 + 8 + 8)
        self.check(5, [0, 1, 0, 2, 0, 3, 0, 4, 1, 2], 1 + 2 + 3 * 4)


class FoundInAnotherWay(unittest.TestCase):
    def test_every_graph(self):
        for vertex_count in range(1, 6):
            for edges in graphs.all_graphs(vertex_count):
                answer = 0
                for vertex in range(vertex_count):
                    distances = graphs.slow_distances(vertex_count, edges, vertex)
                    if len(distances) < vertex_count:
                        answer = -33
                        break
                    answer = max(answer, sum(2 ** d for d in distances.values()))
                self.assertEqual(cover_number(vertex_count, edges), [answer], edges)

    def test_it_is_the_largest_of_what_cover_from_gives(self):
        for vertex_count, edges in graphs.connected_graphs():
            each = [cover_from(vertex_count, vertex, edges) for vertex in range(vertex_count)]
            self.assertEqual(cover_number(vertex_count, edges), max(each), edges)

    def test_it_is_refused_where_cover_from_is_refused(self):
        for vertex_count in range(1, 6):
            for edges in graphs.all_graphs(vertex_count):
                from_the_first = cover_from(vertex_count, 0, edges)
                self.assertEqual(cover_number(vertex_count, edges) == [-33], from_the_first == [-33], edges)


class StackingTheorem(unittest.TestCase):
    """Point 2 of the document's requirements."""

    def every_graph(self, vertex_count):
        """Each connected graph for which a list of pebbles may hold as many as the cover number."""
        for size, edges in graphs.connected_graphs():
            number = cover_number(size, edges)[0]
            if size == vertex_count and number <= 12:
                yield edges, number

    def check(self, vertex_count, edges, configurations):
        for pebbles in configurations:
            self.assertEqual(can_cover(vertex_count, edges, pebbles), [1], (edges, pebbles))

    def test_every_configuration_on_up_to_four_vertices(self):
        tried = 0
        for vertex_count in range(1, 5):
            every = [graphs.all_configurations(vertex_count, count) for count in range(13)]
            for edges, number in self.every_graph(vertex_count):
                tried += 1
                for configurations in every[number:]:
                    self.check(vertex_count, edges, configurations)
        # All connected ones but the twelve paths of four vertices.
        self.assertEqual(tried, 1 + 1 + 4 + (38 - 12))

    def test_configurations_on_five_vertices_shared_out_to_the_graphs(self):
        every = [graphs.all_configurations(5, count) for count in range(13)]
        enough = list(self.every_graph(5))
        # All edges, all but one, all but two that share no end.
        self.assertEqual(len(enough), 1 + 10 + 15)
        for at, (edges, number) in enumerate(enough):
            for configurations in every[number:]:
                self.check(5, edges, configurations[at::len(enough)])

    def test_one_pebble_less_is_not_enough_however_it_lies(self):
        for vertex_count in range(1, 6):
            for edges, number in self.every_graph(vertex_count):
                answers = []
                for vertex in range(vertex_count):
                    pebbles = [0] * vertex_count
                    pebbles[vertex] = number - 1
                    answers += can_cover(vertex_count, edges, pebbles)
                self.assertIn(0, answers, edges)


class Refusals(unittest.TestCase):
    def refused(self, vertex_count, edges, code):
        with self.subTest(vertex_count=vertex_count, edges=edges):
            self.assertEqual(cover_number(vertex_count, edges), [code])

    def test_wrong_graphs(self):
        for name, vertex_count, edges in graphs.WRONG_GRAPHS:
            self.refused(vertex_count, edges, -22)

    def test_graphs_that_are_not_connected(self):
        for vertex_count, edges in graphs.NOT_CONNECTED:
            self.refused(vertex_count, edges, -33)

    def test_a_wrong_graph_that_is_not_connected(self):
        for vertex_count, edges in graphs.WRONG_AND_NOT_CONNECTED:
            self.refused(vertex_count, edges, -22)


if __name__ == "__main__":
    unittest.main()
