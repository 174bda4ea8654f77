"""Promise 1: min_moves."""

import contextlib
import io
import unittest

import samples
from neighbourpairs.rubbling import min_moves
from samples import LARGEST


class OrdinaryInputs(unittest.TestCase):
    def test_examples(self):
        self.assertEqual(min_moves(3, 1, 1, [0, 1, 1, 2], [1, 0, 1]), [1])
        self.assertEqual(min_moves(3, 1, 2, [0, 1, 1, 2], [1, 0, 1]), [-33])

    def test_from_two_different_neighbours(self):
        self.assertEqual(min_moves(3, 2, 1, samples.TRIANGLE, [1, 1, 0]), [1])
        self.assertEqual(min_moves(5, 0, 1, samples.STAR_5, [0, 0, 1, 0, 1]), [1])
        self.assertEqual(min_moves(5, 0, 2, samples.STAR_5, [0, 1, 1, 1, 1]), [2])
        self.assertEqual(min_moves(3, 1, 4, samples.PATH_3, [3, 1, 3]), [3])

    def test_pebbling_moves(self):
        self.assertEqual(min_moves(2, 1, 1, samples.EDGE, [2, 0]), [1])
        self.assertEqual(min_moves(2, 0, 1, samples.EDGE, [0, 3]), [1])
        self.assertEqual(min_moves(2, 1, 3, samples.EDGE, [6, 0]), [3])
        self.assertEqual(min_moves(2, 1, 3, samples.EDGE, [5, 0]), [-33])

    def test_several_moves_in_a_row(self):
        self.assertEqual(min_moves(3, 2, 1, samples.PATH_3, [4, 0, 0]), [3])
        self.assertEqual(min_moves(4, 3, 1, samples.PATH_4, [8, 0, 0, 0]), [7])
        self.assertEqual(min_moves(4, 0, 1, samples.PATH_4, [0, 0, 0, 8]), [7])
        self.assertEqual(min_moves(4, 3, 1, samples.PATH_4, [7, 0, 0, 0]), [-33])
        self.assertEqual(min_moves(4, 3, 1, samples.PATH_4, [4, 1, 0, 0]), [-33])
        self.assertEqual(min_moves(4, 3, 1, samples.PATH_4, [4, 2, 0, 0]), [5])

    def test_both_kinds_in_a_row(self):
        # Pebbling moves bring one pebble each to 1 and 3, and the last move takes both.
        self.assertEqual(min_moves(5, 2, 1, samples.PATH_5, [2, 0, 0, 1, 0]), [2])
        self.assertEqual(min_moves(5, 2, 1, samples.PATH_5, [2, 0, 0, 0, 2]), [3])
        self.assertEqual(min_moves(5, 2, 2, samples.PATH_5, [2, 1, 0, 1, 2]), [4])
        self.assertEqual(min_moves(4, 2, 1, samples.CYCLE_4, [4, 0, 0, 0]), [3])
        # Two vertices of the triangle move onto the third one, and that one onwards.
        self.assertEqual(min_moves(4, 3, 1, [0, 1, 0, 2, 1, 2, 2, 3], [2, 2, 0, 0]), [3])
        self.assertEqual(min_moves(5, 4, 2, samples.PATH_5, [4, 2, 2, 2, 0]), [8])

    def test_smallest_number_where_there_are_longer_ways(self):
        # What lies near is enough; what lies far off would take more moves.
        self.assertEqual(min_moves(4, 3, 1, samples.PATH_4, [8, 0, 2, 0]), [1])
        self.assertEqual(min_moves(4, 3, 1, samples.PATH_4, [8, 0, 1, 0]), [4])
        self.assertEqual(min_moves(4, 3, 1, samples.PATH_4, [6, 2, 1, 0]), [2])
        # Around a cycle of five the short way has 3 moves, the long one 7.
        self.assertEqual(min_moves(5, 2, 1, samples.CYCLE_5, [8, 0, 0, 0, 0]), [3])
        self.assertEqual(min_moves(5, 2, 1, samples.CYCLE_5, [3, 1, 0, 0, 0]), [2])
        # Between two vertices a detour over a third one costs more.
        self.assertEqual(min_moves(3, 2, 1, samples.TRIANGLE, [12, 0, 0]), [1])

    def test_count_that_is_passed_by(self):
        self.assertEqual(min_moves(3, 1, 1, samples.PATH_3, [0, 3, 4]), [0])
        self.assertEqual(min_moves(3, 1, 4, samples.PATH_3, [0, 3, 4]), [1])
        self.assertEqual(min_moves(3, 1, 5, samples.PATH_3, [0, 3, 4]), [2])

    def test_as_the_slow_way_tells(self):
        for vertex_count, edges in samples.graphs_up_to(4):
            slow = samples.SlowWay(vertex_count, edges)
            for pebbles in samples.configurations(vertex_count, 4):
                for target in range(vertex_count):
                    for count in range(1, 4):
                        fewest = slow.fewest_moves(target, count, pebbles)
                        expected = [-33] if fewest is None else [fewest]
                        answer = min_moves(vertex_count, target, count, edges, pebbles)
                        self.assertEqual(answer, expected, (target, count, edges, pebbles))

    def test_answer_is_a_list_of_one_whole_number(self):
        for count in (0, 1, 2):
            answer = min_moves(3, 1, count, samples.PATH_3, [1, 0, 1])
            self.assertIs(type(answer), list)
            self.assertEqual([type(number) for number in answer], [int])


class NoMoves(unittest.TestCase):
    def test_count_0_for_every_target(self):
        for vertex_count, edges in samples.graphs_up_to(4) + [(5, samples.ALL_5), (5, [])]:
            for target in range(vertex_count):
                none = [0] * vertex_count
                self.assertEqual(min_moves(vertex_count, target, 0, edges, none), [0])
                some = [2] * vertex_count
                self.assertEqual(min_moves(vertex_count, target, 0, edges, some), [0])

    def test_target_that_has_them_already(self):
        self.assertEqual(min_moves(1, 0, 12, [], [12]), [0])
        self.assertEqual(min_moves(3, 0, 1, samples.PATH_3, [1, 0, 0]), [0])
        self.assertEqual(min_moves(3, 2, 3, samples.PATH_3, [2, 4, 3]), [0])
        self.assertEqual(min_moves(3, 2, 2, samples.PATH_3, [2, 4, 3]), [0])
        self.assertEqual(min_moves(3, 2, 4, samples.PATH_3, [2, 4, 3]), [1])


class EdgesOfTheLimits(unittest.TestCase):
    def test_vertex_count_1(self):
        self.assertEqual(min_moves(1, 0, 0, [], [0]), [0])
        self.assertEqual(min_moves(1, 0, 1, [], [0]), [-33])
        self.assertEqual(min_moves(1, 0, 12, [], [12]), [0])
        self.assertEqual(min_moves(1, 0, 13, [], [12]), [-33])

    def test_vertex_count_5(self):
        self.assertEqual(min_moves(5, 4, 1, samples.PATH_5, [0, 8, 0, 0, 0]), [7])
        self.assertEqual(min_moves(5, 4, 1, samples.PATH_5, [8, 4, 0, 0, 0]), [11])
        self.assertEqual(min_moves(5, 4, 1, samples.PATH_5, [12, 0, 0, 0, 0]), [-33])
        self.assertEqual(min_moves(5, 0, 6, samples.STAR_5, [0, 3, 3, 3, 3]), [6])

    def test_no_edges(self):
        self.assertEqual(min_moves(5, 2, 1, [], [3, 3, 0, 3, 3]), [-33])
        self.assertEqual(min_moves(5, 2, 1, [], [3, 3, 1, 3, 2]), [0])
        self.assertEqual(min_moves(5, 2, 2, [], [3, 3, 1, 3, 2]), [-33])

    def test_all_edges(self):
        self.assertEqual(min_moves(5, 4, 1, samples.ALL_5, [0, 1, 0, 1, 0]), [1])
        self.assertEqual(min_moves(5, 4, 2, samples.ALL_5, [1, 1, 1, 1, 0]), [2])
        self.assertEqual(min_moves(5, 4, 3, samples.ALL_5, [1, 1, 1, 1, 0]), [-33])
        self.assertEqual(min_moves(5, 0, 6, samples.ALL_5, [0, 3, 3, 3, 3]), [6])
        self.assertEqual(min_moves(5, 0, 7, samples.ALL_5, [0, 3, 3, 3, 3]), [-33])

    def test_sum_12(self):
        self.assertEqual(min_moves(2, 1, 6, samples.EDGE, [12, 0]), [6])
        self.assertEqual(min_moves(2, 1, 7, samples.EDGE, [12, 0]), [-33])
        self.assertEqual(min_moves(3, 2, 3, samples.PATH_3, [12, 0, 0]), [9])
        self.assertEqual(min_moves(4, 3, 1, samples.PATH_4, [12, 0, 0, 0]), [7])

    def test_not_connected(self):
        self.assertEqual(min_moves(5, 0, 1, samples.TWO_PARTS_5, [0, 1, 1, 5, 5]), [1])
        self.assertEqual(min_moves(5, 0, 2, samples.TWO_PARTS_5, [0, 1, 1, 5, 5]), [-33])
        self.assertEqual(min_moves(5, 3, 1, samples.TWO_PARTS_5, [4, 4, 2, 0, 1]), [-33])
        self.assertEqual(min_moves(5, 3, 2, samples.TWO_PARTS_5, [0, 4, 2, 1, 3]), [1])


class Errors(unittest.TestCase):
    def test_graph_outside_the_limits(self):
        for vertex_count, edges in samples.WRONG_GRAPHS:
            pebbles = samples.matching_pebbles(vertex_count)
            for count in (0, 1):
                answer = min_moves(vertex_count, 0, count, edges, pebbles)
                self.assertEqual(answer, [-22], (vertex_count, edges))

    def test_pebbles_outside_the_limits(self):
        for vertex_count, edges, pebbles in samples.WRONG_PEBBLES:
            for count in (0, 1, LARGEST):
                answer = min_moves(vertex_count, 0, count, edges, pebbles)
                self.assertEqual(answer, [-22], (vertex_count, edges, pebbles))

    def test_target_that_does_not_exist(self):
        for vertex_count in range(1, 6):
            for target in (vertex_count, vertex_count + 1, LARGEST):
                for count in (0, 1):
                    answer = min_moves(vertex_count, target, count, [], [2] * vertex_count)
                    self.assertEqual(answer, [-2], (vertex_count, target, count))

    def test_too_many_pebbles_asked_for(self):
        self.assertEqual(min_moves(3, 2, 1, samples.PATH_3, [3, 0, 0]), [-33])
        self.assertEqual(min_moves(3, 0, 1, samples.PATH_3, [0, 0, 0]), [-33])
        self.assertEqual(min_moves(3, 1, LARGEST, samples.PATH_3, [4, 4, 4]), [-33])
        self.assertEqual(min_moves(1, 0, LARGEST, [], [12]), [-33])
        self.assertEqual(min_moves(5, 0, LARGEST, samples.ALL_5, [12, 0, 0, 0, 0]), [-33])

    def test_limits_ahead_of_the_target(self):
        for vertex_count, edges in samples.WRONG_GRAPHS:
            pebbles = samples.matching_pebbles(vertex_count)
            self.assertEqual(min_moves(vertex_count, LARGEST, 1, edges, pebbles), [-22])
        for vertex_count, edges, pebbles in samples.WRONG_PEBBLES:
            self.assertEqual(min_moves(vertex_count, vertex_count, 1, edges, pebbles), [-22])

    def test_target_ahead_of_too_many_pebbles(self):
        self.assertEqual(min_moves(3, 3, LARGEST, samples.PATH_3, [1, 0, 1]), [-2])
        self.assertEqual(min_moves(1, 1, 1, [], [0]), [-2])

    def test_limits_ahead_of_too_many_pebbles(self):
        self.assertEqual(min_moves(3, 1, LARGEST, [0, 1, 0, 1], [1, 0, 1]), [-22])
        self.assertEqual(min_moves(3, 1, LARGEST, samples.PATH_3, [1, 0]), [-22])


class WhatIsLeftAsItWas(unittest.TestCase):
    CALLS = [
        (3, 1, 1, samples.PATH_3, [1, 0, 1], [1]),
        (4, 3, 1, samples.PATH_4, [8, 0, 0, 0], [7]),
        (3, 1, 0, samples.PATH_3, [1, 0, 1], [0]),
        (3, 1, 2, samples.PATH_3, [1, 0, 1], [-33]),
        (3, 3, 1, samples.PATH_3, [1, 0, 1], [-2]),
        (3, 1, 1, [1, 2, 0, 1], [1, 0, 1], [-22]),
        (3, 1, 1, [0, 1, 1], [1, 0, 1], [-22]),
        (3, 1, 1, samples.PATH_3, [13, 0, 0], [-22]),
        (3, 1, 1, samples.PATH_3, [1, 0], [-22]),
    ]

    def test_lists_handed_in_are_not_changed(self):
        for vertex_count, target, count, edges, pebbles, expected in self.CALLS:
            guarded_edges = samples.GuardedList(edges)
            guarded_pebbles = samples.GuardedList(pebbles)
            answer = min_moves(vertex_count, target, count, guarded_edges, guarded_pebbles)
            self.assertEqual(answer, expected)
            self.assertEqual(guarded_edges, edges)
            self.assertEqual(guarded_pebbles, pebbles)

    def test_same_call_again_gives_the_same(self):
        for _ in range(3):
            for vertex_count, target, count, edges, pebbles, expected in self.CALLS:
                answer = min_moves(vertex_count, target, count, edges, pebbles)
                self.assertEqual(answer, expected)
                # The answer is the caller's own: changing it must not reach the next call.
                answer.append(99)

    def test_lists_changed_between_two_calls(self):
        edges = [0, 1, 1, 2]
        pebbles = [1, 0, 1]
        self.assertEqual(min_moves(3, 1, 1, edges, pebbles), [1])
        pebbles[0] = 0
        self.assertEqual(min_moves(3, 1, 1, edges, pebbles), [-33])
        pebbles[2] = 2
        self.assertEqual(min_moves(3, 1, 1, edges, pebbles), [1])
        edges[2:] = []
        self.assertEqual(min_moves(3, 1, 1, edges, pebbles), [-33])

    def test_nothing_is_printed(self):
        out = io.StringIO()
        with contextlib.redirect_stdout(out), contextlib.redirect_stderr(out):
            for vertex_count, target, count, edges, pebbles, _ in self.CALLS:
                min_moves(vertex_count, target, count, edges, pebbles)
        self.assertEqual(out.getvalue(), "")


if __name__ == "__main__":
    unittest.main()
