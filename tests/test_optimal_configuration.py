"""Promise 5: optimal_configuration."""

import unittest

import samples
from neighbourpairs.rubbling import max_pebbles_at, min_moves, optimal_configuration


def every_answer(graphs):
    """Of each graph: vertex_count, edges, the number answered, the configuration answered."""
    answers = []
    for vertex_count, edges in graphs:
        answer = optimal_configuration(vertex_count, edges)
        answers.append((vertex_count, edges, answer[0], answer[1:]))
    return answers


class OrdinaryInputs(unittest.TestCase):
    def test_path(self):
        self.assertEqual(optimal_configuration(2, samples.EDGE), [2, 0, 2])
        self.assertEqual(optimal_configuration(3, samples.PATH_3), [2, 0, 2, 0])
        # The two on 2 make one on 3, or a second one on 1 and from there one on 0.
        self.assertEqual(optimal_configuration(4, samples.PATH_4), [3, 0, 1, 2, 0])
        self.assertEqual(optimal_configuration(5, samples.PATH_5), [3, 0, 2, 0, 0, 1])

    def test_path_that_does_not_go_by_the_numbers(self):
        self.assertEqual(optimal_configuration(3, [0, 1, 0, 2]), [2, 0, 1, 1])
        self.assertEqual(optimal_configuration(5, [0, 2, 0, 3, 1, 3, 1, 4]), [3, 0, 0, 1, 1, 1])

    def test_cycle(self):
        self.assertEqual(optimal_configuration(3, samples.TRIANGLE), [2, 0, 0, 2])
        # One pebble on each of two vertices that face one another.
        self.assertEqual(optimal_configuration(4, samples.CYCLE_4), [2, 0, 1, 0, 1])
        # The two on 4 make one on 3, or one on 0 that makes one on 1 with that on 2.
        self.assertEqual(optimal_configuration(5, samples.CYCLE_5), [3, 0, 0, 1, 0, 2])

    def test_star(self):
        # Two of the outer vertices reach the middle, but no third one.
        self.assertEqual(optimal_configuration(4, [0, 1, 0, 2, 0, 3]), [2, 2, 0, 0, 0])
        self.assertEqual(optimal_configuration(5, samples.STAR_5), [2, 2, 0, 0, 0, 0])
        star_around_3 = [0, 3, 1, 3, 2, 3, 3, 4]
        self.assertEqual(optimal_configuration(5, star_around_3), [2, 0, 0, 0, 2, 0])

    def test_full_graph(self):
        every_pair = [0, 1, 0, 2, 0, 3, 1, 2, 1, 3, 2, 3]
        self.assertEqual(optimal_configuration(4, every_pair), [2, 0, 0, 0, 2])
        self.assertEqual(optimal_configuration(5, samples.ALL_5), [2, 0, 0, 0, 0, 2])

    def test_other_graphs(self):
        self.assertEqual(optimal_configuration(5, samples.FORK_5), [3, 0, 1, 2, 0, 0])
        self.assertEqual(optimal_configuration(5, samples.TAILED_5), [3, 0, 0, 1, 2, 0])

    def test_each_vertex_with_a_sequence_of_its_own(self):
        # Either 0 or 2 gets a pebble, never both of them from the same two pebbles.
        self.assertEqual(optimal_configuration(3, samples.PATH_3)[0], 2)
        self.assertEqual(optimal_configuration(5, samples.STAR_5)[0], 2)

    def test_as_the_slow_way_tells(self):
        wide = samples.NARROW_GRAPHS + samples.LOOSE_GRAPHS + samples.WIDE_GRAPHS
        for vertex_count, edges in samples.graphs_up_to(4) + wide:
            slow = samples.SlowWay(vertex_count, edges)
            fewest, first = min(
                (sum(pebbles), pebbles)
                for pebbles in samples.configurations(vertex_count, vertex_count)
                if slow.reaches_all(pebbles)
            )
            answer = optimal_configuration(vertex_count, edges)
            self.assertEqual(answer, [fewest] + first, (vertex_count, edges))

    def test_answer_is_a_list_of_whole_numbers(self):
        for vertex_count, edges in [(3, samples.PATH_3), (5, []), (1, []), (3, [1, 1])]:
            answer = optimal_configuration(vertex_count, edges)
            self.assertIs(type(answer), list)
            self.assertEqual({type(number) for number in answer}, {int})


class GraphsThatAreNotConnected(unittest.TestCase):
    def test_no_edges(self):
        self.assertEqual(optimal_configuration(2, []), [2, 1, 1])
        self.assertEqual(optimal_configuration(3, []), [3, 1, 1, 1])
        self.assertEqual(optimal_configuration(4, []), [4, 1, 1, 1, 1])
        self.assertEqual(optimal_configuration(5, []), [5, 1, 1, 1, 1, 1])

    def test_a_vertex_alone_beside_an_edge(self):
        self.assertEqual(optimal_configuration(3, [0, 1]), [3, 0, 2, 1])
        self.assertEqual(optimal_configuration(3, [0, 2]), [3, 0, 1, 2])
        self.assertEqual(optimal_configuration(3, [1, 2]), [3, 1, 0, 2])

    def test_two_parts(self):
        self.assertEqual(optimal_configuration(4, [0, 1, 2, 3]), [4, 0, 2, 0, 2])
        self.assertEqual(optimal_configuration(4, samples.TRIANGLE), [3, 0, 0, 2, 1])
        self.assertEqual(optimal_configuration(5, samples.PATH_4), [4, 0, 1, 2, 0, 1])
        self.assertEqual(optimal_configuration(5, samples.TWO_PARTS_5), [4, 0, 1, 1, 0, 2])

    def test_each_part_as_if_alone(self):
        # The vertex alone comes last, so it changes nothing in the order of the ties.
        for vertex_count, edges in samples.graphs_up_to(4):
            alone = optimal_configuration(vertex_count, edges)
            beside = optimal_configuration(vertex_count + 1, edges)
            self.assertEqual(beside, [alone[0] + 1] + alone[1:] + [1], (vertex_count, edges))


class Ties(unittest.TestCase):
    def test_lexicographically_first(self):
        # [1, 1] fails, [2, 0] would do as well.
        self.assertEqual(optimal_configuration(2, samples.EDGE), [2, 0, 2])
        # [1, 0, 1] would do as well, from two different neighbours.
        self.assertEqual(optimal_configuration(3, samples.PATH_3), [2, 0, 2, 0])
        # Every two pebbles would do.
        self.assertEqual(optimal_configuration(3, samples.TRIANGLE), [2, 0, 0, 2])
        self.assertEqual(optimal_configuration(5, samples.ALL_5), [2, 0, 0, 0, 0, 2])
        # [1, 0, 1, 0] would do as well.
        self.assertEqual(optimal_configuration(4, samples.CYCLE_4), [2, 0, 1, 0, 1])
        # [0, 2, 1, 0] would do as well.
        self.assertEqual(optimal_configuration(4, samples.PATH_4), [3, 0, 1, 2, 0])

    def test_fewer_pebbles_ahead_of_the_order(self):
        # [0, 0, 4] comes ahead of it, but has more pebbles.
        self.assertEqual(optimal_configuration(3, samples.PATH_3), [2, 0, 2, 0])
        # [0, 1, 1, 1, 1] comes ahead of it, but has more pebbles.
        self.assertEqual(optimal_configuration(5, samples.STAR_5), [2, 2, 0, 0, 0, 0])

    def test_no_configuration_ahead_of_it_would_do(self):
        graphs = samples.NARROW_GRAPHS + samples.LOOSE_GRAPHS + samples.WIDE_GRAPHS
        for vertex_count, edges, number, optimal in every_answer(graphs):
            for pebbles in samples.configurations(vertex_count, number):
                if (sum(pebbles), pebbles) < (number, optimal):
                    reached = [
                        max_pebbles_at(vertex_count, target, edges, pebbles)[0]
                        for target in range(vertex_count)
                    ]
                    self.assertIn(0, reached, (vertex_count, edges, pebbles))


class EdgesOfTheLimits(unittest.TestCase):
    def test_one_vertex_without_edges(self):
        self.assertEqual(optimal_configuration(1, []), [1, 1])

    def test_five_vertices(self):
        self.assertEqual(optimal_configuration(5, []), [5, 1, 1, 1, 1, 1])
        self.assertEqual(optimal_configuration(5, [3, 4]), [5, 1, 1, 1, 0, 2])
        self.assertEqual(optimal_configuration(5, samples.PATH_5), [3, 0, 2, 0, 0, 1])
        self.assertEqual(optimal_configuration(5, samples.ALL_5), [2, 0, 0, 0, 0, 2])

    def test_diameter_greater_than_3_is_no_error(self):
        for _, _, number, optimal in every_answer(samples.WIDE_GRAPHS):
            self.assertEqual(number, 3)
            self.assertEqual(sum(optimal), 3)

    def test_every_graph_has_an_answer(self):
        for vertex_count, edges, number, optimal in every_answer(samples.graphs_up_to(5)):
            self.assertEqual(len(optimal), vertex_count, edges)
            self.assertEqual(sum(optimal), number, edges)
            self.assertGreaterEqual(min(optimal), 0, edges)
            self.assertGreaterEqual(number, 1, edges)
            self.assertLessEqual(number, vertex_count, edges)
            for target in range(vertex_count):
                moves = min_moves(vertex_count, target, 1, edges, optimal)[0]
                self.assertGreaterEqual(moves, 0, (target, edges, optimal))


class Errors(unittest.TestCase):
    def test_graph_outside_the_limits(self):
        for vertex_count, edges in samples.WRONG_GRAPHS:
            answer = optimal_configuration(vertex_count, edges)
            self.assertEqual(answer, [-22], (vertex_count, edges))


class WhatIsLeftAsItWas(samples.LeavesAllAsItWas, unittest.TestCase):
    operation = staticmethod(optimal_configuration)
    CALLS = [
        ((3, samples.PATH_3), [2, 0, 2, 0]),
        ((5, samples.CYCLE_5), [3, 0, 0, 1, 0, 2]),
        ((5, samples.TWO_PARTS_5), [4, 0, 1, 1, 0, 2]),
        ((1, []), [1, 1]),
        ((6, samples.PATH_3), [-22]),
        ((3, [1, 2, 0, 1]), [-22]),
        ((3, [0, 1, 1]), [-22]),
    ]

    def test_list_changed_between_two_calls(self):
        edges = [0, 1, 1, 2]
        self.assertEqual(optimal_configuration(3, edges), [2, 0, 2, 0])
        edges[2:] = [0, 2]
        self.assertEqual(optimal_configuration(3, edges), [2, 0, 1, 1])
        edges[2:] = []
        self.assertEqual(optimal_configuration(3, edges), [3, 0, 2, 1])


if __name__ == "__main__":
    unittest.main()
