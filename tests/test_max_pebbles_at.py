"""Promise 2: max_pebbles_at."""

import contextlib
import io
import unittest

import samples
from neighbourpairs.rubbling import max_pebbles_at, min_moves
from samples import LARGEST


def sampled_calls():
    """Calls with graphs of up to five vertices, as vertex_count, target, edges, pebbles."""
    graphs = samples.graphs_up_to(3) + [
        (4, samples.PATH_4),
        (4, samples.CYCLE_4),
        (4, [0, 2, 1, 3]),
        (4, [0, 1, 0, 2, 1, 2, 2, 3]),
        (5, samples.PATH_5),
        (5, samples.CYCLE_5),
        (5, samples.STAR_5),
        (5, samples.ALL_5),
        (5, samples.TWO_PARTS_5),
        (5, []),
    ]
    return [
        (vertex_count, target, edges, pebbles)
        for vertex_count, edges in graphs
        for pebbles in samples.configurations(vertex_count, 4)
        for target in range(vertex_count)
    ]


class OrdinaryInputs(unittest.TestCase):
    def test_from_two_different_neighbours(self):
        self.assertEqual(max_pebbles_at(3, 1, samples.PATH_3, [1, 0, 1]), [1])
        self.assertEqual(max_pebbles_at(3, 1, samples.PATH_3, [3, 1, 1]), [3])
        self.assertEqual(max_pebbles_at(3, 2, samples.TRIANGLE, [1, 1, 0]), [1])
        self.assertEqual(max_pebbles_at(5, 0, samples.STAR_5, [0, 1, 1, 1, 1]), [2])
        self.assertEqual(max_pebbles_at(5, 0, samples.STAR_5, [0, 1, 1, 1, 0]), [1])

    def test_pebbling_moves(self):
        self.assertEqual(max_pebbles_at(2, 1, samples.EDGE, [6, 0]), [3])
        self.assertEqual(max_pebbles_at(2, 1, samples.EDGE, [7, 0]), [3])
        self.assertEqual(max_pebbles_at(2, 0, samples.EDGE, [1, 4]), [3])

    def test_several_moves_in_a_row(self):
        self.assertEqual(max_pebbles_at(3, 2, samples.PATH_3, [4, 0, 0]), [1])
        self.assertEqual(max_pebbles_at(3, 2, samples.PATH_3, [8, 0, 1]), [3])
        self.assertEqual(max_pebbles_at(4, 3, samples.PATH_4, [8, 0, 0, 0]), [1])
        self.assertEqual(max_pebbles_at(4, 3, samples.PATH_4, [4, 2, 2, 0]), [2])
        self.assertEqual(max_pebbles_at(5, 2, samples.PATH_5, [2, 1, 0, 1, 2]), [2])
        self.assertEqual(max_pebbles_at(5, 2, samples.PATH_5, [2, 0, 0, 1, 0]), [1])
        self.assertEqual(max_pebbles_at(5, 2, samples.CYCLE_5, [3, 1, 0, 0, 0]), [1])

    def test_largest_number_without_any_move(self):
        self.assertEqual(max_pebbles_at(1, 0, [], [7]), [7])
        self.assertEqual(max_pebbles_at(3, 1, samples.PATH_3, [0, 3, 0]), [3])
        self.assertEqual(max_pebbles_at(3, 1, samples.PATH_3, [1, 3, 0]), [3])
        # There are moves, but each one takes pebbles off the target for fewer back.
        self.assertEqual(max_pebbles_at(2, 0, samples.EDGE, [12, 0]), [12])
        self.assertEqual(max_pebbles_at(3, 0, samples.PATH_3, [5, 1, 0]), [5])

    def test_target_that_can_never_have_a_pebble(self):
        self.assertEqual(max_pebbles_at(3, 2, samples.PATH_3, [3, 0, 0]), [0])
        self.assertEqual(max_pebbles_at(3, 2, samples.PATH_3, [1, 1, 0]), [0])
        self.assertEqual(max_pebbles_at(4, 3, samples.PATH_4, [7, 0, 0, 0]), [0])
        self.assertEqual(max_pebbles_at(3, 2, samples.EDGE, [6, 6, 0]), [0])

    def test_as_the_slow_way_tells(self):
        for vertex_count, edges in samples.graphs_up_to(4):
            slow = samples.SlowWay(vertex_count, edges)
            for pebbles in samples.configurations(vertex_count, 5):
                for target in range(vertex_count):
                    expected = [slow.most_pebbles(target, pebbles)]
                    answer = max_pebbles_at(vertex_count, target, edges, pebbles)
                    self.assertEqual(answer, expected, (target, edges, pebbles))

    def test_answer_is_a_list_of_one_whole_number(self):
        for target in (0, 1, 3):
            answer = max_pebbles_at(3, target, samples.PATH_3, [1, 0, 1])
            self.assertIs(type(answer), list)
            self.assertEqual([type(number) for number in answer], [int])


class EdgesOfTheLimits(unittest.TestCase):
    def test_vertex_count_1(self):
        self.assertEqual(max_pebbles_at(1, 0, [], [0]), [0])
        self.assertEqual(max_pebbles_at(1, 0, [], [12]), [12])

    def test_vertex_count_5(self):
        self.assertEqual(max_pebbles_at(5, 4, samples.PATH_5, [0, 12, 0, 0, 0]), [1])
        self.assertEqual(max_pebbles_at(5, 4, samples.PATH_5, [8, 4, 0, 0, 0]), [1])
        self.assertEqual(max_pebbles_at(5, 4, samples.PATH_5, [12, 0, 0, 0, 0]), [0])
        self.assertEqual(max_pebbles_at(5, 4, samples.PATH_5, [4, 2, 2, 2, 2]), [4])

    def test_no_edges(self):
        self.assertEqual(max_pebbles_at(5, 2, [], [3, 3, 0, 3, 3]), [0])
        self.assertEqual(max_pebbles_at(5, 2, [], [3, 3, 2, 2, 2]), [2])

    def test_all_edges(self):
        self.assertEqual(max_pebbles_at(5, 4, samples.ALL_5, [0, 1, 0, 1, 0]), [1])
        self.assertEqual(max_pebbles_at(5, 4, samples.ALL_5, [1, 1, 1, 1, 1]), [3])
        self.assertEqual(max_pebbles_at(5, 0, samples.ALL_5, [0, 3, 3, 3, 3]), [6])
        self.assertEqual(max_pebbles_at(5, 0, samples.ALL_5, [1, 2, 3, 3, 3]), [6])

    def test_pebbles_all_0(self):
        for vertex_count, edges in samples.graphs_up_to(4) + [(5, samples.ALL_5), (5, [])]:
            for target in range(vertex_count):
                none = [0] * vertex_count
                self.assertEqual(max_pebbles_at(vertex_count, target, edges, none), [0])

    def test_sum_12(self):
        self.assertEqual(max_pebbles_at(2, 1, samples.EDGE, [12, 0]), [6])
        self.assertEqual(max_pebbles_at(3, 2, samples.PATH_3, [12, 0, 0]), [3])
        self.assertEqual(max_pebbles_at(4, 3, samples.PATH_4, [12, 0, 0, 0]), [1])
        self.assertEqual(max_pebbles_at(5, 0, samples.STAR_5, [4, 2, 2, 2, 2]), [8])

    def test_not_connected(self):
        self.assertEqual(max_pebbles_at(5, 0, samples.TWO_PARTS_5, [0, 1, 1, 5, 5]), [1])
        self.assertEqual(max_pebbles_at(5, 3, samples.TWO_PARTS_5, [4, 4, 2, 0, 1]), [0])
        self.assertEqual(max_pebbles_at(5, 3, samples.TWO_PARTS_5, [0, 4, 2, 1, 3]), [2])


class Requirements(unittest.TestCase):
    def test_at_least_as_powerful_as_pebbling(self):
        pebbling = {}
        more_than_pebbling = 0
        for vertex_count, target, edges, pebbles in sampled_calls():
            key = (vertex_count, tuple(edges))
            if key not in pebbling:
                pebbling[key] = samples.SlowWay(vertex_count, edges, pebbling_only=True)
            by_pebbling = pebbling[key].most_pebbles(target, pebbles)
            answer = max_pebbles_at(vertex_count, target, edges, pebbles)[0]
            self.assertGreaterEqual(answer, by_pebbling, (target, edges, pebbles))
            more_than_pebbling += answer > by_pebbling
        self.assertGreater(more_than_pebbling, 0)

    def test_agreement_with_min_moves(self):
        for vertex_count, target, edges, pebbles in sampled_calls():
            most = max_pebbles_at(vertex_count, target, edges, pebbles)[0]
            moves = min_moves(vertex_count, target, most, edges, pebbles)
            self.assertEqual(len(moves), 1)
            self.assertGreaterEqual(moves[0], 0, (target, edges, pebbles))
            one_more = min_moves(vertex_count, target, most + 1, edges, pebbles)
            self.assertEqual(one_more, [-33], (target, edges, pebbles))

    def test_every_move_takes_one_pebble_away(self):
        for vertex_count, target, edges, pebbles in sampled_calls():
            most = max_pebbles_at(vertex_count, target, edges, pebbles)[0]
            moves = min_moves(vertex_count, target, most, edges, pebbles)[0]
            self.assertLessEqual(most, sum(pebbles) - moves, (target, edges, pebbles))
        # Every pair of pebbles around the middle of a star becomes one on it.
        for pebbles in samples.configurations(5, 5):
            around = sum(pebbles[1:])
            most = max_pebbles_at(5, 0, samples.STAR_5, pebbles)[0]
            self.assertEqual(most, pebbles[0] + around // 2, pebbles)
            moves = min_moves(5, 0, most, samples.STAR_5, pebbles)[0]
            self.assertEqual(most, sum(pebbles) - moves - around % 2, pebbles)


class Errors(unittest.TestCase):
    def test_graph_outside_the_limits(self):
        for vertex_count, edges in samples.WRONG_GRAPHS:
            pebbles = samples.matching_pebbles(vertex_count)
            answer = max_pebbles_at(vertex_count, 0, edges, pebbles)
            self.assertEqual(answer, [-22], (vertex_count, edges))

    def test_pebbles_outside_the_limits(self):
        for vertex_count, edges, pebbles in samples.WRONG_PEBBLES:
            answer = max_pebbles_at(vertex_count, 0, edges, pebbles)
            self.assertEqual(answer, [-22], (vertex_count, edges, pebbles))

    def test_target_that_does_not_exist(self):
        for vertex_count in range(1, 6):
            for target in (vertex_count, vertex_count + 1, LARGEST):
                answer = max_pebbles_at(vertex_count, target, [], [2] * vertex_count)
                self.assertEqual(answer, [-2], (vertex_count, target))

    def test_limits_ahead_of_the_target(self):
        for vertex_count, edges in samples.WRONG_GRAPHS:
            pebbles = samples.matching_pebbles(vertex_count)
            self.assertEqual(max_pebbles_at(vertex_count, LARGEST, edges, pebbles), [-22])
        for vertex_count, edges, pebbles in samples.WRONG_PEBBLES:
            self.assertEqual(max_pebbles_at(vertex_count, vertex_count, edges, pebbles), [-22])


class WhatIsLeftAsItWas(unittest.TestCase):
    CALLS = [
        (3, 1, samples.PATH_3, [1, 0, 1], [1]),
        (4, 3, samples.PATH_4, [8, 0, 0, 0], [1]),
        (3, 2, samples.PATH_3, [1, 0, 0], [0]),
        (3, 3, samples.PATH_3, [1, 0, 1], [-2]),
        (3, 1, [1, 2, 0, 1], [1, 0, 1], [-22]),
        (3, 1, [0, 1, 1], [1, 0, 1], [-22]),
        (3, 1, samples.PATH_3, [13, 0, 0], [-22]),
        (3, 1, samples.PATH_3, [1, 0], [-22]),
    ]

    def test_lists_handed_in_are_not_changed(self):
        for vertex_count, target, edges, pebbles, expected in self.CALLS:
            guarded_edges = samples.GuardedList(edges)
            guarded_pebbles = samples.GuardedList(pebbles)
            answer = max_pebbles_at(vertex_count, target, guarded_edges, guarded_pebbles)
            self.assertEqual(answer, expected)
            self.assertEqual(guarded_edges, edges)
            self.assertEqual(guarded_pebbles, pebbles)

    def test_same_call_again_gives_the_same(self):
        for _ in range(3):
            for vertex_count, target, edges, pebbles, expected in self.CALLS:
                answer = max_pebbles_at(vertex_count, target, edges, pebbles)
                self.assertEqual(answer, expected)
                # The answer is the caller's own: changing it must not reach the next call.
                answer.append(99)

    def test_lists_changed_between_two_calls(self):
        edges = [0, 1, 1, 2]
        pebbles = [1, 0, 1]
        self.assertEqual(max_pebbles_at(3, 1, edges, pebbles), [1])
        pebbles[0] = 5
        self.assertEqual(max_pebbles_at(3, 1, edges, pebbles), [3])
        edges[2:] = []
        self.assertEqual(max_pebbles_at(3, 1, edges, pebbles), [2])

    def test_nothing_is_printed(self):
        out = io.StringIO()
        with contextlib.redirect_stdout(out), contextlib.redirect_stderr(out):
            for vertex_count, target, edges, pebbles, _ in self.CALLS:
                max_pebbles_at(vertex_count, target, edges, pebbles)
        self.assertEqual(out.getvalue(), "")


if __name__ == "__main__":
    unittest.main()
