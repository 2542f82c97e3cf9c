import math
import unittest

from stonewalk.stones import count_solvable, is_solvable, optimal_configuration
from tests import graphs
from tests.graphs import LARGEST

MOST = 6


def counts(vertex_count, edges):
    """The answers for 0 to 6 pebbles, one behind another."""
    return [number for pebbles in range(MOST + 1) for number in count_solvable(vertex_count, pebbles, edges)]


class Answers(unittest.TestCase):
    def check(self, vertex_count, edges, answers):
        with self.subTest(vertex_count=vertex_count, edges=edges):
            self.assertEqual(counts(vertex_count, edges), answers)

    def test_a_path_of_three(self):
        # Two pebbles do on the middle vertex alone; three do not if all lie on one end.
        self.assertEqual(count_solvable(3, 2, [0, 1, 1, 2]), [1])
        self.assertEqual(count_solvable(3, 3, [0, 1, 1, 2]), [8])
        self.check(3, graphs.PATH_3, [0, 0, 1, 8, 15, 21, 28])

    def test_a_single_vertex(self):
        self.check(1, [], [0, 1, 1, 1, 1, 1, 1])

    def test_two_vertices(self):
        self.check(2, [], [0, 0, 1, 2, 3, 4, 5])
        self.check(2, [0, 1], [0, 0, 3, 4, 5, 6, 7])

    def test_no_edges(self):
        # Every vertex needs its own pebble; the others lie anywhere.
        for vertex_count in range(1, 6):
            answers = [
                math.comb(pebbles - 1, vertex_count - 1) if pebbles >= vertex_count else 0
                for pebbles in range(MOST + 1)
            ]
            self.check(vertex_count, [], answers)
        self.check(5, [], [0, 0, 0, 0, 0, 1, 5])

    def test_all_edges(self):
        # Two pebbles on one vertex do; else there must be a pebble on each.
        for vertex_count in range(1, 6):
            edges = [end for pair in graphs.possible_pairs(vertex_count) for end in pair]
            answers = []
            for pebbles in range(MOST + 1):
                every = math.comb(vertex_count + pebbles - 1, pebbles)
                side_by_side = math.comb(vertex_count, pebbles)
                answers.append(every - side_by_side + (1 if pebbles == vertex_count else 0))
            self.check(vertex_count, edges, answers)
        self.check(5, graphs.COMPLETE_5, [0, 0, 5, 25, 65, 126, 210])

    def test_a_graph_that_is_not_connected(self):
        self.check(3, [0, 1], [0, 0, 0, 3, 7, 12, 18])
        self.check(4, [0, 1, 2, 3], [0, 0, 0, 0, 9, 24, 46])

    def test_no_pebbles(self):
        for vertex_count in range(1, 6):
            for edges in graphs.all_graphs(vertex_count):
                self.assertEqual(count_solvable(vertex_count, 0, edges), [0], edges)

    def test_six_pebbles(self):
        self.assertEqual(count_solvable(1, 6, []), [1])
        self.assertEqual(count_solvable(3, 6, graphs.PATH_3), [28])
        self.assertEqual(count_solvable(5, 6, []), [5])
        self.assertEqual(count_solvable(5, 6, graphs.PATH_5), [161])
        self.assertEqual(count_solvable(5, 6, graphs.COMPLETE_5), [210])

    def test_five_vertices(self):
        self.check(5, graphs.PATH_5, [0, 0, 0, 0, 14, 68, 161])
        # Two pebbles in the middle of a star do, and a third one lies anywhere; so do one there and two on an end.
        self.assertEqual(counts(5, graphs.STAR_5)[:4], [0, 0, 1, 5 + 4])


class FoundInAnotherWay(unittest.TestCase):
    def compare(self, vertex_count, edges, most=MOST):
        slow = graphs.SlowAnswers(vertex_count, edges)
        for pebbles in range(most + 1):
            every = graphs.all_configurations(vertex_count, pebbles)
            count = len([one for one in every if slow.solvable(one)])
            self.assertEqual(count_solvable(vertex_count, pebbles, edges), [count], (pebbles, edges))

    def test_every_graph_up_to_four_vertices(self):
        for vertex_count in range(1, 5):
            for edges in graphs.all_graphs(vertex_count):
                self.compare(vertex_count, edges)

    def test_some_graphs_of_five_vertices(self):
        for edges in [graphs.PATH_5, graphs.CYCLE_5, graphs.STAR_5, graphs.COMPLETE_5, [0, 4, 1, 3]]:
            self.compare(5, edges)
        for edges in list(graphs.all_graphs(5))[::19]:
            self.compare(5, edges)

    def test_every_graph_of_five_vertices_with_few_pebbles(self):
        for edges in graphs.all_graphs(5):
            self.compare(5, edges, most=2)

    def test_it_counts_what_is_solvable_tells(self):
        for edges in [graphs.PATH_5, graphs.CYCLE_5, [0, 1, 1, 2, 1, 3, 3, 4], [0, 2, 1, 3, 1, 4]]:
            for pebbles in range(MOST + 1):
                every = graphs.all_configurations(5, pebbles)
                told = sum(is_solvable(5, edges, one)[0] for one in every)
                self.assertEqual(count_solvable(5, pebbles, edges), [told], (pebbles, edges))

    def test_the_first_count_above_0_stands_at_the_optimal_number(self):
        for vertex_count in range(1, 6):
            for edges in list(graphs.all_graphs(vertex_count))[::7]:
                optimal = optimal_configuration(vertex_count, edges)[0]
                self.assertEqual(count_solvable(vertex_count, optimal - 1, edges), [0], edges)
                self.assertGreater(count_solvable(vertex_count, optimal, edges)[0], 0, edges)

    def test_the_parts_of_a_graph_share_the_pebbles(self):
        for edges in list(graphs.all_graphs(5))[::19]:
            shared_out = [1] + [0] * MOST
            for part in graphs.parts(5, edges):
                inside = sorted(part)
                renamed = [inside.index(end) for end in edges if end in part]
                alone = counts(len(inside), renamed)
                shared_out = [
                    sum(shared_out[pebbles - here] * alone[here] for here in range(pebbles + 1))
                    for pebbles in range(MOST + 1)
                ]
            self.assertEqual(counts(5, edges), shared_out, edges)


class Refusals(unittest.TestCase):
    def test_wrong_graphs(self):
        for name, vertex_count, edges in graphs.WRONG_GRAPHS:
            for pebbles in range(MOST + 1):
                with self.subTest(name, pebbles=pebbles):
                    self.assertEqual(count_solvable(vertex_count, pebbles, edges), [-22])

    def test_more_than_six_pebbles(self):
        for vertex_count in range(1, 6):
            for edges in graphs.all_graphs(vertex_count):
                self.assertEqual(count_solvable(vertex_count, 7, edges), [-22], edges)
        for pebbles in (7, 8, 12, 13, LARGEST - 1, LARGEST):
            with self.subTest(pebbles=pebbles):
                self.assertEqual(count_solvable(1, pebbles, []), [-22])
                self.assertEqual(count_solvable(3, pebbles, graphs.PATH_3), [-22])
                self.assertEqual(count_solvable(5, pebbles, graphs.COMPLETE_5), [-22])

    def test_a_wrong_graph_and_too_many_pebbles(self):
        for name, vertex_count, edges in graphs.WRONG_GRAPHS:
            for pebbles in (7, LARGEST):
                with self.subTest(name, pebbles=pebbles):
                    self.assertEqual(count_solvable(vertex_count, pebbles, edges), [-22])


if __name__ == "__main__":
    unittest.main()
