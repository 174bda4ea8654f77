"""Promise 4: savings."""

import contextlib
import io
import unittest

import samples
from neighbourpairs.rubbling import rubbling_number, savings
from samples import LARGEST


def all_savings(vertex_count, edges):
    """The answer for each target in turn."""
    return [savings(vertex_count, target, edges) for target in range(vertex_count)]


class OrdinaryInputs(unittest.TestCase):
    def test_the_numbers_differ(self):
        # The middle of a path: two pebbles, one on each side, are enough for rubbling.
        self.assertEqual(savings(3, 1, samples.PATH_3), [1])
        # 5 and 4
        self.assertEqual(savings(4, 1, samples.PATH_4), [1])
        self.assertEqual(savings(4, 2, samples.PATH_4), [1])
        # 3 and 2
        self.assertEqual(all_savings(3, samples.TRIANGLE), [[1]] * 3)
        # 4 and 2 in the middle, 5 and 4 at the ends
        self.assertEqual(all_savings(4, [0, 1, 0, 2, 0, 3]), [[2], [1], [1], [1]])
        # 4 and 2
        every_pair = [0, 1, 0, 2, 0, 3, 1, 2, 1, 3, 2, 3]
        self.assertEqual(all_savings(4, every_pair), [[2]] * 4)

    def test_the_numbers_are_alike(self):
        # 2, 4 and 8: the power of 2 that the far end of a path asks for in any case.
        self.assertEqual(all_savings(2, samples.EDGE), [[0], [0]])
        self.assertEqual(savings(3, 0, samples.PATH_3), [0])
        self.assertEqual(savings(3, 2, samples.PATH_3), [0])
        self.assertEqual(savings(4, 0, samples.PATH_4), [0])
        self.assertEqual(savings(4, 3, samples.PATH_4), [0])
        # 4 and 5
        self.assertEqual(all_savings(4, samples.CYCLE_4), [[0]] * 4)
        self.assertEqual(all_savings(5, samples.CYCLE_5), [[0]] * 5)

    def test_paths_that_do_not_go_by_the_numbers(self):
        self.assertEqual(all_savings(3, [0, 1, 0, 2]), [[1], [0], [0]])
        self.assertEqual(all_savings(4, [0, 2, 0, 3, 1, 3]), [[1], [0], [0], [1]])

    def test_as_the_slow_way_tells(self):
        small = [graph for graph in samples.graphs_up_to(4) if samples.is_narrow(*graph)]
        for vertex_count, edges in small + samples.NARROW_GRAPHS:
            rubbling = samples.SlowWay(vertex_count, edges)
            pebbling = samples.SlowWay(vertex_count, edges, pebbling_only=True)
            for target in range(vertex_count):
                expected = pebbling.smallest_number(target) - rubbling.smallest_number(target)
                answer = savings(vertex_count, target, edges)
                self.assertEqual(answer, [expected], (target, edges))

    def test_answer_is_a_list_of_one_whole_number(self):
        for target in (0, 1, 3):
            answer = savings(3, target, samples.PATH_3)
            self.assertIs(type(answer), list)
            self.assertEqual([type(number) for number in answer], [int])


class EdgesOfTheLimits(unittest.TestCase):
    def test_one_vertex_without_edges(self):
        self.assertEqual(savings(1, 0, []), [0])

    def test_diameter_of_just_3(self):
        self.assertEqual(all_savings(4, samples.PATH_4), [[0], [1], [1], [0]])
        # 9 and 8, 6 and 4, 6 and 4, 9 and 8, 9 and 8
        self.assertEqual(all_savings(5, samples.FORK_5), [[1], [2], [2], [1], [1]])
        # 9 and 8, 9 and 8, 6 and 4, 6 and 4, 9 and 8
        self.assertEqual(all_savings(5, samples.TAILED_5), [[1], [1], [2], [2], [1]])

    def test_five_vertices(self):
        # 5 and 2 in the middle, 6 and 4 at the ends
        self.assertEqual(all_savings(5, samples.STAR_5), [[3], [2], [2], [2], [2]])
        # 5 and 2
        self.assertEqual(all_savings(5, samples.ALL_5), [[3]] * 5)
        self.assertEqual(savings(5, 4, samples.CYCLE_5), [0])


class Requirements(unittest.TestCase):
    def test_never_below_0(self):
        # The rubbling number is at most the pebbling number.
        told = {}
        for vertex_count, edges in samples.graphs_up_to(5):
            if samples.is_narrow(vertex_count, edges):
                for target in range(vertex_count):
                    answer = savings(vertex_count, target, edges)
                    self.assertEqual(len(answer), 1)
                    self.assertGreaterEqual(answer[0], 0, (target, edges))
                    told[answer[0]] = True
        self.assertIn(0, told)
        self.assertIn(1, told)

    def test_pebbling_number_of_a_vertex_next_to_all_others(self):
        # One pebble on each of the others fails, and one more makes a pair on one of them.
        for vertex_count, edges in samples.graphs_up_to(5):
            table = samples.distances(vertex_count, edges)
            for target in range(vertex_count):
                if table[target].count(1) == vertex_count - 1:
                    number = rubbling_number(vertex_count, target, edges)[0]
                    answer = savings(vertex_count, target, edges)
                    self.assertEqual(answer, [vertex_count - number], (target, edges))


class Errors(unittest.TestCase):
    def test_graph_outside_the_limits(self):
        for vertex_count, edges in samples.WRONG_GRAPHS:
            answer = savings(vertex_count, 0, edges)
            self.assertEqual(answer, [-22], (vertex_count, edges))

    def test_graph_that_is_not_connected(self):
        for vertex_count, edges in samples.LOOSE_GRAPHS:
            self.assertEqual(all_savings(vertex_count, edges), [[-33]] * vertex_count, edges)

    def test_diameter_greater_than_3(self):
        for vertex_count, edges in samples.WIDE_GRAPHS:
            self.assertEqual(all_savings(vertex_count, edges), [[-75]] * 5, edges)

    def test_target_that_does_not_exist(self):
        for vertex_count, edges in samples.NARROW_GRAPHS:
            for target in (vertex_count, vertex_count + 1, LARGEST):
                answer = savings(vertex_count, target, edges)
                self.assertEqual(answer, [-2], (target, edges))

    def test_limits_ahead_of_all_others(self):
        for vertex_count, edges in samples.WRONG_GRAPHS:
            self.assertEqual(savings(vertex_count, LARGEST, edges), [-22])
        for target in (0, 4, 5, LARGEST):
            # Not connected, whatever the wrong edge may mean.
            self.assertEqual(savings(5, target, [0, 1, 3, 3]), [-22])
            # Paths of five and six vertices but for what is wrong.
            self.assertEqual(savings(5, target, [0, 1, 1, 2, 2, 3, 4, 3]), [-22])
            self.assertEqual(savings(5, target, samples.PATH_5 + [3]), [-22])
            self.assertEqual(savings(6, target, samples.PATH_5 + [4, 5]), [-22])

    def test_not_connected_ahead_of_the_diameter(self):
        # The long path comes to four vertices alone; the fifth one has no distance at all.
        for target in range(5):
            self.assertEqual(savings(5, target, samples.PATH_4), [-33])
            self.assertEqual(savings(5, target, [1, 2, 2, 3, 3, 4]), [-33])

    def test_not_connected_ahead_of_the_target(self):
        for vertex_count, edges in samples.LOOSE_GRAPHS:
            for target in (vertex_count, LARGEST):
                self.assertEqual(savings(vertex_count, target, edges), [-33], (target, edges))

    def test_diameter_ahead_of_the_target(self):
        for vertex_count, edges in samples.WIDE_GRAPHS:
            for target in (vertex_count, LARGEST):
                self.assertEqual(savings(vertex_count, target, edges), [-75], (target, edges))

    def test_the_same_errors_as_rubbling_number(self):
        for vertex_count, edges in samples.graphs_up_to(5):
            for target in (0, vertex_count):
                number = rubbling_number(vertex_count, target, edges)
                answer = savings(vertex_count, target, edges)
                if number[0] < 0:
                    self.assertEqual(answer, number, (target, edges))
                else:
                    self.assertGreaterEqual(answer[0], 0, (target, edges))


class WhatIsLeftAsItWas(unittest.TestCase):
    CALLS = [
        (3, 1, samples.PATH_3, [1]),
        (4, 3, samples.PATH_4, [0]),
        (5, 0, samples.STAR_5, [3]),
        (1, 0, [], [0]),
        (3, 3, samples.PATH_3, [-2]),
        (5, 0, samples.TWO_PARTS_5, [-33]),
        (5, 0, samples.PATH_5, [-75]),
        (3, 1, [1, 2, 0, 1], [-22]),
        (3, 1, [0, 1, 1], [-22]),
    ]

    def test_lists_handed_in_are_not_changed(self):
        for vertex_count, target, edges, expected in self.CALLS:
            guarded_edges = samples.GuardedList(edges)
            answer = savings(vertex_count, target, guarded_edges)
            self.assertEqual(answer, expected)
            self.assertEqual(guarded_edges, edges)

    def test_same_call_again_gives_the_same(self):
        for _ in range(3):
            for vertex_count, target, edges, expected in self.CALLS:
                answer = savings(vertex_count, target, edges)
                self.assertEqual(answer, expected)
                # The answer is the caller's own: changing it must not reach the next call.
                answer.append(99)

    def test_list_changed_between_two_calls(self):
        edges = [0, 1, 1, 2]
        self.assertEqual(savings(3, 0, edges), [0])
        edges[2:] = [0, 2, 1, 2]
        self.assertEqual(savings(3, 0, edges), [1])
        edges[2:] = []
        self.assertEqual(savings(3, 0, edges), [-33])

    def test_nothing_is_printed(self):
        out = io.StringIO()
        with contextlib.redirect_stdout(out), contextlib.redirect_stderr(out):
            for vertex_count, target, edges, _ in self.CALLS:
                savings(vertex_count, target, edges)
        self.assertEqual(out.getvalue(), "")


if __name__ == "__main__":
    unittest.main()
