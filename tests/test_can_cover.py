import unittest

from stonewalk.stones import can_cover, is_solvable
from tests import graphs


class Answers(unittest.TestCase):
    def check(self, vertex_count, edges, pebbles, answer):
        with self.subTest(vertex_count=vertex_count, edges=edges, pebbles=pebbles):
            self.assertEqual(can_cover(vertex_count, edges, pebbles), [answer])

    def check_stack(self, edges, vertex, fewest):
        """All pebbles on one vertex cover the graph of five from this number on."""
        for held in range(13):
            pebbles = [0] * 5
            pebbles[vertex] = held
            self.check(5, edges, pebbles, 1 if held >= fewest else 0)

    def test_the_documents_example(self):
        self.check(3, [0, 1, 1, 2], [7, 0, 0], 1)

    def test_a_pebble_less_than_in_the_example(self):
        self.check(3, graphs.PATH_3, [6, 0, 0], 0)
        self.check(3, graphs.PATH_3, [0, 0, 6], 0)
        self.check(3, graphs.PATH_3, [0, 0, 7], 1)

    def test_a_single_vertex(self):
        self.check(1, [], [0], 0)
        for held in range(1, 13):
            self.check(1, [], [held], 1)

    def test_two_vertices(self):
        self.check(2, [0, 1], [0, 0], 0)
        self.check(2, [0, 1], [1, 0], 0)
        self.check(2, [0, 1], [2, 0], 0)
        self.check(2, [0, 1], [0, 2], 0)
        self.check(2, [0, 1], [1, 1], 1)
        self.check(2, [0, 1], [3, 0], 1)
        self.check(2, [0, 1], [0, 3], 1)

    def test_no_edges(self):
        self.check(2, [], [12, 0], 0)
        self.check(2, [], [11, 1], 1)
        self.check(3, [], [5, 0, 1], 0)
        self.check(3, [], [5, 1, 1], 1)
        self.check(5, [], [0, 0, 12, 0, 0], 0)
        self.check(5, [], [3, 3, 3, 3, 0], 0)
        self.check(5, [], [1, 1, 1, 1, 1], 1)

    def test_a_graph_that_is_not_connected(self):
        self.check(4, [0, 1, 2, 3], [12, 0, 0, 0], 0)
        self.check(4, [0, 1, 2, 3], [10, 0, 2, 0], 0)
        self.check(4, [0, 1, 2, 3], [3, 0, 0, 3], 1)
        self.check(4, [0, 1, 2, 3], [0, 3, 1, 1], 1)
        self.check(4, [0, 1, 1, 2], [7, 0, 0, 0], 0)
        self.check(4, [0, 1, 1, 2], [7, 0, 0, 1], 1)
        self.check(5, [0, 4, 1, 3], [3, 3, 0, 0, 0], 0)
        self.check(5, [0, 4, 1, 3], [3, 3, 1, 0, 0], 1)

    def test_no_pebbles_and_one_pebble_on_each_vertex(self):
        for vertex_count in range(1, 6):
            for edges in graphs.all_graphs(vertex_count):
                self.assertEqual(can_cover(vertex_count, edges, [0] * vertex_count), [0], edges)
                self.assertEqual(can_cover(vertex_count, edges, [1] * vertex_count), [1], edges)

    def test_fewer_pebbles_than_vertices(self):
        for vertex_count in range(2, 6):
            for edges in list(graphs.all_graphs(vertex_count))[::5]:
                for pebbles in graphs.all_configurations(vertex_count, vertex_count - 1):
                    self.assertEqual(can_cover(vertex_count, edges, pebbles), [0], (edges, pebbles))

    def test_a_sum_of_twelve(self):
        self.check(5, graphs.PATH_5, [12, 0, 0, 0, 0], 0)
        self.check(5, graphs.PATH_5, [0, 0, 12, 0, 0], 0)
        self.check(5, graphs.PATH_5, [0, 6, 0, 6, 0], 1)
        self.check(5, graphs.PATH_5, [5, 0, 1, 0, 6], 1)
        self.check(5, graphs.PATH_5, [8, 1, 1, 1, 1], 1)
        self.check(5, graphs.PATH_5, [9, 1, 1, 1, 0], 0)
        self.check(5, graphs.COMPLETE_5, [12, 0, 0, 0, 0], 1)
        self.check(5, graphs.COMPLETE_5, [2, 2, 2, 3, 3], 1)
        self.check(5, graphs.STAR_5, [0, 6, 6, 0, 0], 0)
        self.check(5, graphs.STAR_5, [0, 7, 5, 0, 0], 1)

    def test_five_vertices_and_all_edges(self):
        for vertex in range(5):
            self.check_stack(graphs.COMPLETE_5, vertex, 1 + 4 * 2)
        self.check(5, graphs.COMPLETE_5, [3, 3, 0, 0, 1], 1)
        self.check(5, graphs.COMPLETE_5, [4, 2, 0, 0, 1], 0)
        self.check(5, graphs.COMPLETE_5, [2, 2, 2, 2, 0], 0)
        self.check(5, graphs.COMPLETE_5, [3, 1, 1, 1, 0], 1)

    def test_all_pebbles_on_one_vertex(self):
        self.check_stack(graphs.STAR_5, 0, 1 + 4 * 2)
        self.check_stack(graphs.CYCLE_5, 3, 1 + 2 * 2 + 2 * 4)
        self.check_stack([0, 1, 0, 2, 0, 3, 1, 4], 0, 1 + 3 * 2 + 4)
        self.check_stack([0, 1, 0, 2, 0, 3, 1, 4, 2, 4], 1, 1 + 2 * 2 + 2 * 4)
        self.check_stack(graphs.COMPLETE_5[2:], 1, 1 + 3 * 2 + 4)

    def test_all_vertices_are_covered_at_the_same_time(self):
        # Each vertex can be reached by a sequence of its own, but no single one covers them all.
        for vertex_count, edges, pebbles in [
            (2, [0, 1], [2, 0]),
            (3, graphs.PATH_3, [0, 2, 0]),
            (3, graphs.PATH_3, [0, 4, 0]),
            (3, graphs.PATH_3, [6, 0, 0]),
            (3, graphs.PATH_3, [1, 0, 2]),
            (4, graphs.CYCLE_4, [8, 0, 0, 0]),
            (4, graphs.CYCLE_4, [4, 0, 2, 0]),
            (5, graphs.COMPLETE_5, [8, 0, 0, 0, 0]),
            (5, graphs.PATH_5, [0, 0, 12, 0, 0]),
        ]:
            self.assertEqual(is_solvable(vertex_count, edges, pebbles)[0], 1)
            self.check(vertex_count, edges, pebbles, 0)
        self.check(3, graphs.PATH_3, [0, 5, 0], 1)
        self.check(3, graphs.PATH_3, [1, 0, 3], 1)
        self.check(4, graphs.CYCLE_4, [9, 0, 0, 0], 1)
        self.check(4, graphs.CYCLE_4, [5, 0, 1, 0], 1)

    def test_pebbles_pass_over_vertices_that_are_covered(self):
        self.check(4, graphs.PATH_4, [5, 1, 1, 0], 0)
        self.check(4, graphs.PATH_4, [9, 1, 1, 0], 1)
        self.check(4, graphs.PATH_4, [5, 2, 2, 0], 1)
        self.check(5, graphs.STAR_5, [1, 3, 3, 0, 1], 1)
        self.check(5, graphs.STAR_5, [1, 4, 2, 0, 1], 0)


class FoundInAnotherWay(unittest.TestCase):
    def compare(self, vertex_count, edges, counts):
        slow = graphs.SlowAnswers(vertex_count, edges)
        for count in counts:
            for pebbles in graphs.all_configurations(vertex_count, count):
                answer = [1 if slow.coverable(pebbles) else 0]
                self.assertEqual(can_cover(vertex_count, edges, pebbles), answer, (edges, pebbles))

    def test_every_graph_up_to_three_vertices(self):
        for vertex_count in range(1, 4):
            for edges in graphs.all_graphs(vertex_count):
                self.compare(vertex_count, edges, range(13))

    def test_every_graph_of_four_vertices(self):
        for edges in graphs.all_graphs(4):
            self.compare(4, edges, range(9))

    def test_all_numbers_of_pebbles_on_four_vertices(self):
        for edges in [[], graphs.PATH_4, graphs.CYCLE_4, [0, 1, 2, 3], [0, 3, 1, 2, 1, 3]]:
            self.compare(4, edges, range(9, 13))

    def test_some_graphs_of_five_vertices(self):
        for edges in list(graphs.all_graphs(5))[::41]:
            self.compare(5, edges, range(5, 8))
        self.compare(5, graphs.CYCLE_5, [11])

    def test_paths_by_their_closed_form(self):
        for count in (8, 10, 12):
            for pebbles in graphs.all_configurations(5, count):
                answer = [1 if left_over_on_a_path(pebbles) >= 0 else 0]
                self.assertEqual(can_cover(5, graphs.PATH_5, pebbles), answer, pebbles)

    def test_stars_by_their_closed_form(self):
        for count in (8, 10, 12):
            for pebbles in graphs.all_configurations(5, count):
                in_the_middle = pebbles[0] - 1 + sum(handed_on(held - 1) for held in pebbles[1:])
                answer = [1 if in_the_middle >= 0 else 0]
                self.assertEqual(can_cover(5, graphs.STAR_5, pebbles), answer, pebbles)

    def test_all_edges_by_their_closed_form(self):
        # Two pebbles that a vertex doesn't need cover one more vertex, whichever.
        for count in (5, 7, 9):
            for pebbles in graphs.all_configurations(5, count):
                moves = sum((held - 1) // 2 for held in pebbles if held > 0)
                answer = [1 if moves >= pebbles.count(0) else 0]
                self.assertEqual(can_cover(5, graphs.COMPLETE_5, pebbles), answer, pebbles)

    def test_each_part_of_a_graph_is_covered_by_itself(self):
        for edges in list(graphs.all_graphs(5))[:200:3]:
            parts = [sorted(part) for part in graphs.parts(5, edges)]
            for pebbles in graphs.all_configurations(5, 7)[::4]:
                answers = []
                for inside in parts:
                    renamed = [inside.index(end) for end in edges if end in inside]
                    answers += can_cover(len(inside), renamed, [pebbles[vertex] for vertex in inside])
                self.assertEqual(can_cover(5, edges, pebbles), [min(answers)], (edges, pebbles))

    def test_what_can_be_covered_is_solvable(self):
        for edges in [graphs.PATH_5, graphs.CYCLE_5, graphs.STAR_5, [0, 4, 1, 3]]:
            for pebbles in graphs.all_configurations(5, 7):
                if can_cover(5, edges, pebbles) == [1]:
                    self.assertEqual(is_solvable(5, edges, pebbles), [1] * 6, (edges, pebbles))


def left_over_on_a_path(pebbles):
    """What the last vertex has more than it needs, once each one ahead of it is seen to by the next."""
    left_over = 0
    for vertex, held in enumerate(pebbles):
        left_over = held - 1 + (handed_on(left_over) if vertex > 0 else 0)
    return left_over


def handed_on(left_over):
    """Two pebbles to spare make one on the next vertex; one that is missing costs two there."""
    return left_over // 2 if left_over >= 0 else 2 * left_over


if __name__ == "__main__":
    unittest.main()
