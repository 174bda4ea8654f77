"""Promise 3: rubbling_number."""

import contextlib
import io
import unittest

import samples
from neighbourpairs.rubbling import max_pebbles_at, min_moves, rubbling_number
from samples import LARGEST


def numbers(vertex_count, edges):
    """The answer for each target in turn."""
    return [rubbling_number(vertex_count, target, edges) for target in range(vertex_count)]


def narrow_calls():
    """Every graph with a rubbling number and every target of it."""
    return [
        (vertex_count, target, edges)
        for vertex_count, edges in samples.graphs_up_to(5)
        if samples.is_narrow(vertex_count, edges)
        for target in range(vertex_count)
    ]


class OrdinaryInputs(unittest.TestCase):
    def test_path(self):
        self.assertEqual(numbers(2, samples.EDGE), [[2], [2]])
        self.assertEqual(numbers(3, samples.PATH_3), [[4], [2], [4]])
        self.assertEqual(numbers(4, samples.PATH_4), [[8], [4], [4], [8]])

    def test_path_that_does_not_go_by_the_numbers(self):
        self.assertEqual(numbers(3, [0, 1, 0, 2]), [[2], [4], [4]])
        self.assertEqual(numbers(4, [0, 2, 0, 3, 1, 3]), [[4], [8], [8], [4]])

    def test_cycle(self):
        self.assertEqual(numbers(3, samples.TRIANGLE), [[2]] * 3)
        self.assertEqual(numbers(4, samples.CYCLE_4), [[4]] * 4)
        # Two pebbles on each of the far vertices reach the target, but three and one don't.
        self.assertEqual(numbers(5, samples.CYCLE_5), [[5]] * 5)

    def test_star(self):
        self.assertEqual(numbers(4, [0, 1, 0, 2, 0, 3]), [[2], [4], [4], [4]])
        self.assertEqual(numbers(5, samples.STAR_5), [[2], [4], [4], [4], [4]])
        self.assertEqual(numbers(5, [0, 3, 1, 3, 2, 3, 3, 4]), [[4], [4], [4], [2], [4]])

    def test_full_graph(self):
        self.assertEqual(numbers(4, [0, 1, 0, 2, 0, 3, 1, 2, 1, 3, 2, 3]), [[2]] * 4)
        self.assertEqual(numbers(5, samples.ALL_5), [[2]] * 5)

    def test_as_the_slow_way_tells(self):
        small = [graph for graph in samples.graphs_up_to(4) if samples.is_narrow(*graph)]
        for vertex_count, edges in small + samples.NARROW_GRAPHS:
            slow = samples.SlowWay(vertex_count, edges)
            for target in range(vertex_count):
                answer = rubbling_number(vertex_count, target, edges)
                self.assertEqual(answer, [slow.smallest_number(target)], (target, edges))

    def test_answer_is_a_list_of_one_whole_number(self):
        for target in (0, 1, 3):
            answer = rubbling_number(3, target, samples.PATH_3)
            self.assertIs(type(answer), list)
            self.assertEqual([type(number) for number in answer], [int])


class EdgesOfTheLimits(unittest.TestCase):
    def test_one_vertex_without_edges(self):
        # No pebble at all is no positive number of pebbles.
        self.assertEqual(rubbling_number(1, 0, []), [1])

    def test_diameter_of_just_3(self):
        self.assertEqual(numbers(4, samples.PATH_4), [[8], [4], [4], [8]])
        self.assertEqual(numbers(5, samples.FORK_5), [[8], [4], [4], [8], [8]])
        self.assertEqual(numbers(5, samples.TAILED_5), [[8], [8], [4], [4], [8]])

    def test_five_vertices(self):
        self.assertEqual(rubbling_number(5, 4, samples.CYCLE_5), [5])
        self.assertEqual(rubbling_number(5, 4, samples.STAR_5), [4])
        self.assertEqual(rubbling_number(5, 4, samples.FORK_5), [8])
        self.assertEqual(rubbling_number(5, 4, samples.ALL_5), [2])

    def test_as_few_and_as_many_edges_as_can_be(self):
        self.assertEqual(numbers(5, samples.STAR_5), [[2], [4], [4], [4], [4]])
        self.assertEqual(numbers(5, samples.ALL_5), [[2]] * 5)
        # All edges but 3-4, and but 0-1.
        self.assertEqual(numbers(5, samples.ALL_5[:-2]), [[2], [2], [2], [4], [4]])
        self.assertEqual(numbers(5, samples.ALL_5[2:]), [[4], [4], [2], [2], [2]])


class Requirements(unittest.TestCase):
    def test_at_most_the_pebbling_number(self):
        less = 0
        for vertex_count, edges in samples.NARROW_GRAPHS:
            slow = samples.SlowWay(vertex_count, edges, pebbling_only=True)
            for target in range(vertex_count):
                answer = rubbling_number(vertex_count, target, edges)[0]
                by_pebbling = slow.smallest_number(target)
                self.assertLessEqual(answer, by_pebbling, (target, edges))
                less += answer < by_pebbling
        self.assertGreater(less, 0)

    def test_at_least_2_to_the_power_of_each_distance(self):
        just_that = 0
        for vertex_count, target, edges in narrow_calls():
            farthest = max(samples.distances(vertex_count, edges)[target])
            answer = rubbling_number(vertex_count, target, edges)[0]
            self.assertGreaterEqual(answer, 2**farthest, (target, edges))
            just_that += answer == 2**farthest
        self.assertGreater(just_that, 0)

    def test_agreement_with_max_pebbles_at_and_min_moves(self):
        for vertex_count, edges in samples.NARROW_GRAPHS:
            for target in range(vertex_count):
                number = rubbling_number(vertex_count, target, edges)[0]
                failing = 0
                for pebbles in samples.configurations(vertex_count, number):
                    if sum(pebbles) < number - 1:
                        continue
                    most = max_pebbles_at(vertex_count, target, edges, pebbles)[0]
                    if sum(pebbles) == number:
                        self.assertGreaterEqual(most, 1, (target, edges, pebbles))
                    elif most == 0:
                        moves = min_moves(vertex_count, target, 1, edges, pebbles)
                        self.assertEqual(moves, [-33], (target, edges, pebbles))
                        failing += 1
                self.assertGreater(failing, 0, (target, edges))


class Errors(unittest.TestCase):
    def test_graph_outside_the_limits(self):
        for vertex_count, edges in samples.WRONG_GRAPHS:
            answer = rubbling_number(vertex_count, 0, edges)
            self.assertEqual(answer, [-22], (vertex_count, edges))

    def test_graph_that_is_not_connected(self):
        for vertex_count, edges in samples.LOOSE_GRAPHS:
            self.assertEqual(numbers(vertex_count, edges), [[-33]] * vertex_count, edges)

    def test_diameter_greater_than_3(self):
        for vertex_count, edges in samples.WIDE_GRAPHS:
            self.assertEqual(numbers(vertex_count, edges), [[-75]] * 5, edges)

    def test_target_that_does_not_exist(self):
        for vertex_count, edges in samples.NARROW_GRAPHS:
            for target in (vertex_count, vertex_count + 1, LARGEST):
                answer = rubbling_number(vertex_count, target, edges)
                self.assertEqual(answer, [-2], (target, edges))

    def test_limits_ahead_of_all_others(self):
        for vertex_count, edges in samples.WRONG_GRAPHS:
            self.assertEqual(rubbling_number(vertex_count, LARGEST, edges), [-22])
        for target in (0, 4, 5, LARGEST):
            # Not connected, whatever the wrong edge may mean.
            self.assertEqual(rubbling_number(5, target, [0, 1, 3, 3]), [-22])
            # Paths of five and six vertices but for what is wrong.
            self.assertEqual(rubbling_number(5, target, [0, 1, 1, 2, 2, 3, 4, 3]), [-22])
            self.assertEqual(rubbling_number(5, target, samples.PATH_5 + [3]), [-22])
            self.assertEqual(rubbling_number(6, target, samples.PATH_5 + [4, 5]), [-22])

    def test_not_connected_ahead_of_the_diameter(self):
        # The long path comes to four vertices alone; the fifth one has no distance at all.
        for target in range(5):
            self.assertEqual(rubbling_number(5, target, samples.PATH_4), [-33])
            self.assertEqual(rubbling_number(5, target, [1, 2, 2, 3, 3, 4]), [-33])

    def test_not_connected_ahead_of_the_target(self):
        for vertex_count, edges in samples.LOOSE_GRAPHS:
            for target in (vertex_count, LARGEST):
                answer = rubbling_number(vertex_count, target, edges)
                self.assertEqual(answer, [-33], (target, edges))

    def test_diameter_ahead_of_the_target(self):
        for vertex_count, edges in samples.WIDE_GRAPHS:
            for target in (vertex_count, LARGEST):
                answer = rubbling_number(vertex_count, target, edges)
                self.assertEqual(answer, [-75], (target, edges))

    def test_every_graph(self):
        told = {-33: 0, -75: 0, -2: 0}
        for vertex_count, edges in samples.graphs_up_to(5):
            found = sum(samples.distances(vertex_count, edges), [])
            if None in found:
                expected = -33
            elif max(found) > 3:
                expected = -75
            else:
                expected = -2
            answer = rubbling_number(vertex_count, vertex_count, edges)
            self.assertEqual(answer, [expected], (vertex_count, edges))
            told[expected] += 1
        self.assertNotIn(0, told.values())


class WhatIsLeftAsItWas(unittest.TestCase):
    CALLS = [
        (3, 1, samples.PATH_3, [2]),
        (4, 3, samples.PATH_4, [8]),
        (5, 2, samples.CYCLE_5, [5]),
        (1, 0, [], [1]),
        (3, 3, samples.PATH_3, [-2]),
        (5, 0, samples.TWO_PARTS_5, [-33]),
        (5, 0, samples.PATH_5, [-75]),
        (3, 1, [1, 2, 0, 1], [-22]),
        (3, 1, [0, 1, 1], [-22]),
    ]

    def test_lists_handed_in_are_not_changed(self):
        for vertex_count, target, edges, expected in self.CALLS:
            guarded_edges = samples.GuardedList(edges)
            answer = rubbling_number(vertex_count, target, guarded_edges)
            self.assertEqual(answer, expected)
            self.assertEqual(guarded_edges, edges)

    def test_same_call_again_gives_the_same(self):
        for _ in range(3):
            for vertex_count, target, edges, expected in self.CALLS:
                answer = rubbling_number(vertex_count, target, edges)
                self.assertEqual(answer, expected)
                # The answer is the caller's own: changing it must not reach the next call.
                answer.append(99)

    def test_list_changed_between_two_calls(self):
        edges = [0, 1, 1, 2]
        self.assertEqual(rubbling_number(3, 0, edges), [4])
        edges[2:] = [0, 2, 1, 2]
        self.assertEqual(rubbling_number(3, 0, edges), [2])
        edges[2:] = []
        self.assertEqual(rubbling_number(3, 0, edges), [-33])

    def test_nothing_is_printed(self):
        out = io.StringIO()
        with contextlib.redirect_stdout(out), contextlib.redirect_stderr(out):
            for vertex_count, target, edges, _ in self.CALLS:
                rubbling_number(vertex_count, target, edges)
        self.assertEqual(out.getvalue(), "")


if __name__ == "__main__":
    unittest.main()
