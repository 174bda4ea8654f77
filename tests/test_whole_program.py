"""Promises over the whole program: the examples, Requirements 1 to 3, errors in their order."""

import itertools
import unittest

import samples
from neighbourpairs.rubbling import (
    apply_moves,
    max_pebbles_at,
    min_moves,
    optimal_configuration,
    rubbling_number,
    savings,
)
from samples import LARGEST

GRAPHS = samples.graphs_up_to(3) + [
    (4, samples.PATH_4),
    (4, samples.CYCLE_4),
    (4, samples.TRIANGLE),
    (5, samples.PATH_5),
    (5, samples.CYCLE_5),
    (5, samples.STAR_5),
    (5, samples.TWO_PARTS_5),
]


def walk(vertex_count, edges, pebbles, pebbling_only=False):
    """By configuration, the fewest moves that lead to it, found by apply_moves alone."""
    moves = [
        [first, second, target]
        for first, second, target in itertools.product(range(vertex_count), repeat=3)
        if first == second or not pebbling_only
    ]
    fewest = {tuple(pebbles): 0}
    waiting = [tuple(pebbles)]
    for configuration in waiting:
        for move in moves:
            performed, *after = apply_moves(vertex_count, edges, list(configuration), move)
            if performed == 1 and tuple(after) not in fewest:
                fewest[tuple(after)] = fewest[configuration] + 1
                waiting.append(tuple(after))
    return fewest


class Examples(unittest.TestCase):
    def test_examples(self):
        path = [0, 1, 1, 2]
        self.assertEqual(min_moves(3, 1, 1, path, [1, 0, 1]), [1])
        self.assertEqual(rubbling_number(3, 1, path), [2])
        self.assertEqual(savings(3, 1, path), [1])
        self.assertEqual(apply_moves(3, path, [1, 0, 1], [0, 2, 1, 0, 0, 1]), [1, 0, 1, 0])
        self.assertEqual(min_moves(3, 1, 2, path, [1, 0, 1]), [-33])


class AtLeastAsPowerfulAsPebbling(unittest.TestCase):
    def test_largest_numbers(self):
        more = 0
        for vertex_count, edges in GRAPHS:
            for pebbles in samples.configurations(vertex_count, 4):
                by_pebbling = walk(vertex_count, edges, pebbles, pebbling_only=True)
                for target in range(vertex_count):
                    largest = max(configuration[target] for configuration in by_pebbling)
                    answer = max_pebbles_at(vertex_count, target, edges, pebbles)[0]
                    self.assertGreaterEqual(answer, largest, (target, edges, pebbles))
                    more += answer > largest
        self.assertGreater(more, 0)


class Bounds(unittest.TestCase):
    def test_at_most_the_pebbling_number(self):
        for vertex_count, edges in samples.NARROW_GRAPHS:
            slow = samples.SlowWay(vertex_count, edges, pebbling_only=True)
            for target in range(vertex_count):
                number = rubbling_number(vertex_count, target, edges)[0]
                saved = savings(vertex_count, target, edges)[0]
                self.assertLessEqual(number, slow.smallest_number(target), (target, edges))
                self.assertEqual(number + saved, slow.smallest_number(target), (target, edges))

    def test_at_least_2_to_the_power_of_each_distance(self):
        for vertex_count, edges in samples.NARROW_GRAPHS:
            table = samples.distances(vertex_count, edges)
            for start, target in itertools.product(range(vertex_count), repeat=2):
                distance = table[start][target]
                number = rubbling_number(vertex_count, target, edges)[0]
                self.assertGreaterEqual(number, 2**distance, (start, target, edges))
                # One pebble fewer fails if all of them lie on that one vertex.
                pebbles = [0] * vertex_count
                pebbles[start] = 2**distance - 1
                answer = max_pebbles_at(vertex_count, target, edges, pebbles)
                self.assertEqual(answer, [0], (start, target, edges))


class Conservation(unittest.TestCase):
    def test_every_move_takes_one_pebble_away(self):
        performed = 0
        for vertex_count, edges in GRAPHS:
            for pebbles in samples.configurations(vertex_count, 4):
                for move in itertools.product(range(vertex_count), repeat=3):
                    moves = list(move) * 3
                    move_count, *after = apply_moves(vertex_count, edges, pebbles, moves)
                    self.assertEqual(sum(after), sum(pebbles) - move_count, (edges, pebbles, moves))
                    performed += move_count
        self.assertGreater(performed, 0)

    def test_no_more_moves_than_pebbles_to_take_away(self):
        for vertex_count, edges in GRAPHS:
            for pebbles in samples.configurations(vertex_count, 4):
                for target in range(vertex_count):
                    most = max_pebbles_at(vertex_count, target, edges, pebbles)[0]
                    moves = min_moves(vertex_count, target, most, edges, pebbles)[0]
                    self.assertLessEqual(most, sum(pebbles) - moves, (target, edges, pebbles))


class OneMeaningOfAMove(unittest.TestCase):
    def test_min_moves_and_max_pebbles_at(self):
        for vertex_count, edges in GRAPHS:
            for pebbles in samples.configurations(vertex_count, 4):
                fewest = walk(vertex_count, edges, pebbles)
                for target in range(vertex_count):
                    most = max(configuration[target] for configuration in fewest)
                    answer = max_pebbles_at(vertex_count, target, edges, pebbles)
                    self.assertEqual(answer, [most], (target, edges, pebbles))
                    for count in range(most + 1):
                        moves = min(
                            fewest[configuration]
                            for configuration in fewest
                            if configuration[target] >= count
                        )
                        answer = min_moves(vertex_count, target, count, edges, pebbles)
                        self.assertEqual(answer, [moves], (target, count, edges, pebbles))

    def test_optimal_configuration(self):
        for vertex_count, edges in samples.graphs_up_to(4) + GRAPHS:
            optimal = optimal_configuration(vertex_count, edges)[1:]
            reached = walk(vertex_count, edges, optimal)
            for target in range(vertex_count):
                self.assertTrue(
                    any(configuration[target] >= 1 for configuration in reached),
                    (target, edges, optimal),
                )


class ChecksOfEveryOperation(unittest.TestCase):
    def answers(self, vertex_count, edges, pebbles):
        """What every operation answers, with all else that is handed in wrong or not reached."""
        return [
            min_moves(vertex_count, LARGEST, LARGEST, edges, pebbles),
            max_pebbles_at(vertex_count, LARGEST, edges, pebbles),
            rubbling_number(vertex_count, LARGEST, edges),
            savings(vertex_count, LARGEST, edges),
            optimal_configuration(vertex_count, edges),
            apply_moves(vertex_count, edges, pebbles, [LARGEST]),
        ]

    def test_graph_ahead_of_all_others(self):
        for vertex_count, edges in samples.WRONG_GRAPHS:
            for pebbles in (samples.matching_pebbles(vertex_count), [], [LARGEST] * 7):
                answers = self.answers(vertex_count, edges, pebbles)
                self.assertEqual(answers, [[-22]] * 6, (vertex_count, edges, pebbles))

    def test_pebbles_ahead_of_what_comes_behind(self):
        for vertex_count, edges, pebbles in samples.WRONG_PEBBLES:
            answers = self.answers(vertex_count, edges, pebbles)
            with_pebbles = answers[:2] + answers[5:]
            self.assertEqual(with_pebbles, [[-22]] * 3, (vertex_count, edges, pebbles))

    def test_nothing_but_an_error_is_below_0(self):
        for vertex_count, edges in samples.graphs_up_to(4) + [(5, samples.PATH_5), (5, [])]:
            pebbles = [2] * vertex_count
            answers = [
                min_moves(vertex_count, 0, 3, edges, pebbles),
                max_pebbles_at(vertex_count, 0, edges, pebbles),
                rubbling_number(vertex_count, 0, edges),
                savings(vertex_count, 0, edges),
                optimal_configuration(vertex_count, edges),
                apply_moves(vertex_count, edges, pebbles, [0] * 30),
            ]
            for answer in answers:
                if min(answer) < 0:
                    self.assertIn(answer, [[-33], [-75]], (vertex_count, edges))
            lengths = [len(answer) for answer in answers]
            self.assertEqual(lengths, [1, 1, 1, 1, vertex_count + 1, vertex_count + 1])


if __name__ == "__main__":
    unittest.main()
