"""Promise 6: apply_moves."""

import itertools
import unittest

import samples
from neighbourpairs.rubbling import apply_moves
from samples import LARGEST

# From [12, 0] all on 1, then all back to 0, and so on: 6 + 3 + 1 moves.
TEN_MOVES = [0, 0, 1] * 6 + [1, 1, 0] * 3 + [0, 0, 1]

# Of each: the moves, for the path 0-1-2. One thing is wrong with each.
WRONG_MOVES = [
    # a number of elements that isn't divisible by 3
    [0],
    [0, 2],
    [0, 2, 1, 0],
    [0, 2, 1, 0, 2],
    [0, 2, 1] * 9 + [0],
    [0, 2, 1] * 9 + [0, 2],
    # more than 30 elements
    [0, 2, 1] * 10 + [0],
    [0, 2, 1] * 10 + [0, 2],
    [0] * 31,
    [0] * 32,
    # an element that isn't a vertex
    [3, 2, 1],
    [0, 3, 1],
    [0, 2, 3],
    [LARGEST, 2, 1],
    [0, LARGEST, 1],
    [0, 2, LARGEST],
    [0, 2, 1, 0, 2, 3],
    [3, 3, 3],
    [4, 4, 4],
    [LARGEST] * 30,
    [0, 2, 1] * 9 + [3, 2, 1],
    [0, 2, 1] * 9 + [0, 3, 1],
    [0, 2, 1] * 9 + [0, 2, 3],
]


def expected_of_one_move(vertex_count, edges, pebbles, move):
    """What the document asks for, read off the list of edges itself."""
    first, second, target = move
    pairs = [edges[place : place + 2] for place in range(0, len(edges), 2)]
    both_adjacent = all(sorted([vertex, target]) in pairs for vertex in (first, second))
    left = list(pebbles)
    left[first] -= 1
    left[second] -= 1
    if not both_adjacent or min(left) < 0:
        return [0] + pebbles
    left[target] += 1
    return [1] + left


class OrdinaryInputs(unittest.TestCase):
    def test_example(self):
        answer = apply_moves(3, [0, 1, 1, 2], [1, 0, 1], [0, 2, 1, 0, 0, 1])
        self.assertEqual(answer, [1, 0, 1, 0])

    def test_one_move(self):
        self.assertEqual(apply_moves(3, samples.PATH_3, [1, 0, 1], [0, 2, 1]), [1, 0, 1, 0])
        self.assertEqual(apply_moves(3, samples.PATH_3, [3, 2, 4], [0, 2, 1]), [1, 2, 3, 3])
        self.assertEqual(apply_moves(3, samples.PATH_3, [3, 2, 4], [2, 2, 1]), [1, 3, 3, 2])
        self.assertEqual(apply_moves(3, samples.PATH_3, [3, 2, 4], [1, 1, 0]), [1, 4, 0, 4])
        self.assertEqual(apply_moves(3, samples.TRIANGLE, [1, 1, 0], [0, 1, 2]), [1, 0, 0, 1])
        self.assertEqual(
            apply_moves(5, samples.STAR_5, [0, 1, 1, 1, 1], [2, 4, 0]), [1, 1, 1, 0, 1, 0]
        )

    def test_all_of_them_possible(self):
        moves = [0, 2, 1, 0, 0, 1, 1, 1, 2]
        self.assertEqual(apply_moves(3, samples.PATH_3, [3, 0, 1], moves), [3, 0, 0, 1])
        moves = [0, 0, 1] * 2 + [1, 1, 2]
        self.assertEqual(apply_moves(4, samples.PATH_4, [4, 0, 0, 5], moves), [3, 0, 0, 1, 5])
        moves = [0, 1, 2, 0, 1, 2, 2, 2, 3]
        tailed = [0, 1, 0, 2, 1, 2, 2, 3]
        self.assertEqual(apply_moves(4, tailed, [2, 2, 0, 0], moves), [3, 0, 0, 0, 1])
        moves = [1, 2, 0, 3, 4, 0, 0, 0, 3]
        self.assertEqual(
            apply_moves(5, samples.STAR_5, [0, 1, 1, 1, 1], moves), [3, 0, 0, 0, 1, 0]
        )

    def test_a_move_that_the_one_ahead_makes_possible(self):
        self.assertEqual(
            apply_moves(3, samples.PATH_3, [1, 1, 1], [0, 2, 1, 1, 1, 0]), [2, 1, 0, 0]
        )
        self.assertEqual(
            apply_moves(3, samples.PATH_3, [1, 1, 1], [1, 1, 0, 0, 2, 1]), [0, 1, 1, 1]
        )

    def test_the_first_one_impossible(self):
        moves = [0, 0, 1, 0, 2, 1]
        self.assertEqual(apply_moves(3, samples.PATH_3, [1, 0, 1], moves), [0, 1, 0, 1])
        moves = [1, 1, 0] + [0, 2, 1] * 9
        self.assertEqual(apply_moves(3, samples.PATH_3, [6, 0, 6], moves), [0, 6, 0, 6])

    def test_one_in_the_middle_impossible(self):
        # The third move fails, the one behind it would be possible.
        moves = [0, 2, 1, 0, 2, 1, 0, 2, 1, 1, 1, 0]
        self.assertEqual(apply_moves(3, samples.PATH_3, [5, 0, 2], moves), [2, 3, 2, 0])
        # Neither the one that fails nor the one behind it is tried again.
        moves = [0, 0, 1, 1, 1, 2, 0, 0, 1, 1, 1, 2]
        self.assertEqual(apply_moves(3, samples.PATH_3, [4, 0, 0], moves), [1, 2, 1, 0])

    def test_the_last_one_impossible(self):
        moves = [0, 2, 1, 0, 2, 1]
        self.assertEqual(apply_moves(3, samples.PATH_3, [2, 0, 1], moves), [1, 1, 1, 0])

    def test_every_single_move(self):
        performed = 0
        for vertex_count, edges in samples.graphs_up_to(4):
            for pebbles in samples.configurations(vertex_count, 3):
                for move in itertools.product(range(vertex_count), repeat=3):
                    expected = expected_of_one_move(vertex_count, edges, pebbles, move)
                    answer = apply_moves(vertex_count, edges, pebbles, list(move))
                    self.assertEqual(answer, expected, (edges, pebbles, move))
                    performed += answer[0]
        self.assertGreater(performed, 0)

    def test_moves_together_as_one_by_one(self):
        single = [list(move) for move in itertools.product(range(3), repeat=3)]
        for vertex_count, edges in [(3, samples.PATH_3), (3, samples.TRIANGLE), (3, [0, 2])]:
            for chosen in itertools.product(single, repeat=3):
                left = [3, 1, 2]
                performed = 0
                for move in chosen:
                    answer = expected_of_one_move(vertex_count, edges, left, move)
                    if answer[0] == 0:
                        break
                    performed += 1
                    left = answer[1:]
                answer = apply_moves(vertex_count, edges, [3, 1, 2], sum(chosen, []))
                self.assertEqual(answer, [performed] + left, (edges, chosen))

    def test_answer_is_a_list_of_whole_numbers(self):
        for moves in ([], [0, 2, 1], [0, 0, 1], [0, 2]):
            answer = apply_moves(3, samples.PATH_3, [1, 0, 1], moves)
            self.assertIs(type(answer), list)
            self.assertEqual({type(number) for number in answer}, {int})


class FirstAndSecond(unittest.TestCase):
    def test_first_greater_than_second(self):
        self.assertEqual(apply_moves(3, samples.PATH_3, [1, 0, 1], [2, 0, 1]), [1, 0, 1, 0])
        self.assertEqual(apply_moves(3, samples.TRIANGLE, [0, 1, 1], [2, 1, 0]), [1, 1, 0, 0])
        self.assertEqual(
            apply_moves(5, samples.STAR_5, [0, 1, 1, 1, 1], [4, 2, 0]), [1, 1, 1, 0, 1, 0]
        )
        self.assertEqual(apply_moves(3, samples.PATH_3, [0, 0, 2], [2, 0, 1]), [0, 0, 0, 2])

    def test_the_other_way_round_is_the_same(self):
        for vertex_count, edges in samples.graphs_up_to(4):
            for first, second, target in itertools.product(range(vertex_count), repeat=3):
                pebbles = [2, 1, 0, 1][:vertex_count]
                one_way = apply_moves(vertex_count, edges, pebbles, [first, second, target])
                other_way = apply_moves(vertex_count, edges, pebbles, [second, first, target])
                self.assertEqual(one_way, other_way, (edges, first, second, target))

    def test_first_equal_to_second(self):
        self.assertEqual(apply_moves(2, samples.EDGE, [2, 0], [0, 0, 1]), [1, 0, 1])
        self.assertEqual(apply_moves(2, samples.EDGE, [3, 4], [1, 1, 0]), [1, 4, 2])

    def test_first_equal_to_second_needs_two_pebbles(self):
        self.assertEqual(apply_moves(2, samples.EDGE, [1, 0], [0, 0, 1]), [0, 1, 0])
        self.assertEqual(apply_moves(2, samples.EDGE, [0, 5], [0, 0, 1]), [0, 0, 5])
        self.assertEqual(apply_moves(3, samples.PATH_3, [1, 0, 4], [0, 0, 1]), [0, 1, 0, 4])

    def test_one_of_the_two_pebbles_is_missing(self):
        self.assertEqual(apply_moves(3, samples.PATH_3, [5, 2, 0], [0, 2, 1]), [0, 5, 2, 0])
        self.assertEqual(apply_moves(3, samples.PATH_3, [0, 2, 5], [0, 2, 1]), [0, 0, 2, 5])


class VerticesThatAreNotAdjacent(unittest.TestCase):
    def test_both_of_them(self):
        self.assertEqual(apply_moves(3, samples.PATH_3, [4, 0, 0], [0, 0, 2]), [0, 4, 0, 0])
        self.assertEqual(apply_moves(4, samples.PATH_4, [3, 3, 0, 0], [0, 1, 3]), [0, 3, 3, 0, 0])
        self.assertEqual(
            apply_moves(5, samples.TWO_PARTS_5, [0, 3, 3, 0, 0], [1, 2, 3]), [0, 0, 3, 3, 0, 0]
        )

    def test_one_of_them(self):
        self.assertEqual(apply_moves(3, samples.PATH_3, [3, 3, 3], [0, 1, 2]), [0, 3, 3, 3])
        self.assertEqual(apply_moves(3, samples.PATH_3, [3, 3, 3], [1, 0, 2]), [0, 3, 3, 3])

    def test_target_among_them(self):
        # No vertex is adjacent to itself.
        self.assertEqual(apply_moves(3, samples.PATH_3, [3, 3, 3], [1, 1, 1]), [0, 3, 3, 3])
        self.assertEqual(apply_moves(3, samples.PATH_3, [3, 3, 3], [0, 1, 1]), [0, 3, 3, 3])
        self.assertEqual(apply_moves(3, samples.PATH_3, [3, 3, 3], [1, 0, 1]), [0, 3, 3, 3])
        self.assertEqual(apply_moves(1, [], [12], [0, 0, 0]), [0, 12])

    def test_the_moves_end_there(self):
        moves = [0, 2, 1, 0, 0, 2, 0, 2, 1]
        self.assertEqual(apply_moves(3, samples.PATH_3, [4, 0, 4], moves), [1, 3, 1, 3])

    def test_no_edges(self):
        for move in itertools.product(range(5), repeat=3):
            answer = apply_moves(5, [], [3, 2, 2, 2, 3], list(move))
            self.assertEqual(answer, [0, 3, 2, 2, 2, 3], move)


class EdgesOfTheLimits(unittest.TestCase):
    def test_empty_list(self):
        for vertex_count, edges in samples.graphs_up_to(4) + [(5, samples.ALL_5), (5, [])]:
            for number in (0, 1, 2):
                pebbles = [number] * vertex_count
                answer = apply_moves(vertex_count, edges, pebbles, [])
                self.assertEqual(answer, [0] + pebbles)

    def test_10_moves(self):
        self.assertEqual(len(TEN_MOVES), 30)
        self.assertEqual(apply_moves(2, samples.EDGE, [12, 0], TEN_MOVES), [10, 1, 1])
        self.assertEqual(apply_moves(2, samples.EDGE, [11, 0], TEN_MOVES), [5, 1, 5])
        self.assertEqual(
            apply_moves(5, samples.ALL_5, [12, 0, 0, 0, 0], TEN_MOVES), [10, 1, 1, 0, 0, 0]
        )

    def test_10_moves_of_which_few_are_possible(self):
        moves = [0, 2, 1] * 10
        self.assertEqual(apply_moves(3, samples.PATH_3, [6, 0, 6], moves), [6, 0, 6, 0])
        self.assertEqual(apply_moves(3, samples.PATH_3, [1, 0, 6], moves), [1, 0, 1, 5])
        self.assertEqual(apply_moves(3, samples.PATH_3, [0, 0, 0], moves), [0, 0, 0, 0])

    def test_vertex_count_1(self):
        self.assertEqual(apply_moves(1, [], [0], []), [0, 0])
        self.assertEqual(apply_moves(1, [], [12], [0] * 30), [0, 12])

    def test_last_vertex_of_five(self):
        self.assertEqual(
            apply_moves(5, samples.PATH_5, [0, 0, 0, 2, 1], [3, 3, 4]), [1, 0, 0, 0, 0, 2]
        )
        self.assertEqual(
            apply_moves(5, samples.PATH_5, [0, 0, 1, 0, 1], [4, 2, 3]), [1, 0, 0, 0, 1, 0]
        )

    def test_all_edges(self):
        moves = [0, 1, 4, 2, 3, 4, 4, 4, 0]
        self.assertEqual(
            apply_moves(5, samples.ALL_5, [1, 1, 1, 1, 0], moves), [3, 1, 0, 0, 0, 0]
        )

    def test_sum_12(self):
        self.assertEqual(apply_moves(2, samples.EDGE, [12, 0], [0, 0, 1]), [1, 10, 1])
        self.assertEqual(
            apply_moves(5, samples.STAR_5, [4, 2, 2, 2, 2], [1, 1, 0]), [1, 5, 0, 2, 2, 2]
        )


class Errors(unittest.TestCase):
    def test_graph_outside_the_limits(self):
        for vertex_count, edges in samples.WRONG_GRAPHS:
            pebbles = samples.matching_pebbles(vertex_count)
            answer = apply_moves(vertex_count, edges, pebbles, [])
            self.assertEqual(answer, [-22], (vertex_count, edges))
            if vertex_count > 0:
                answer = apply_moves(vertex_count, edges, pebbles, [0, 0, 0])
                self.assertEqual(answer, [-22], (vertex_count, edges))

    def test_pebbles_outside_the_limits(self):
        for vertex_count, edges, pebbles in samples.WRONG_PEBBLES:
            for moves in ([], [0, 0, 0]):
                answer = apply_moves(vertex_count, edges, pebbles, moves)
                self.assertEqual(answer, [-22], (vertex_count, edges, pebbles))

    def test_moves_outside_the_limits(self):
        for moves in WRONG_MOVES:
            answer = apply_moves(3, samples.PATH_3, [6, 0, 6], moves)
            self.assertEqual(answer, [-22], moves)

    def test_vertex_count_tells_what_a_vertex_is(self):
        for vertex_count in range(1, 6):
            pebbles = [2] * vertex_count
            for place in range(3):
                moves = [0, 0, 0]
                moves[place] = vertex_count - 1
                answer = apply_moves(vertex_count, [], pebbles, moves)
                self.assertEqual(answer, [0] + pebbles, moves)
                moves[place] = vertex_count
                answer = apply_moves(vertex_count, [], pebbles, moves)
                self.assertEqual(answer, [-22], moves)

    def test_wrong_element_behind_an_impossible_move(self):
        for moves in ([0, 0, 1, 3, 2, 1], [0, 0, 0, 0, 3, 1], [1, 1, 2, 0, 2, LARGEST]):
            self.assertEqual(apply_moves(3, samples.PATH_3, [1, 0, 1], moves), [-22], moves)

    def test_wrong_number_of_elements_behind_an_impossible_move(self):
        for moves in ([0, 0, 1, 0], [0, 0, 1, 0, 2], [1] * 31, [1] * 32):
            self.assertEqual(apply_moves(3, samples.PATH_3, [1, 0, 1], moves), [-22], moves)

    def test_several_causes_at_once(self):
        for moves in WRONG_MOVES:
            for vertex_count, edges in samples.WRONG_GRAPHS:
                pebbles = samples.matching_pebbles(vertex_count)
                self.assertEqual(apply_moves(vertex_count, edges, pebbles, moves), [-22])
            for vertex_count, edges, pebbles in samples.WRONG_PEBBLES:
                self.assertEqual(apply_moves(vertex_count, edges, pebbles, moves), [-22])


class WhatIsLeftAsItWas(samples.LeavesAllAsItWas, unittest.TestCase):
    operation = staticmethod(apply_moves)
    CALLS = [
        ((3, samples.PATH_3, [1, 0, 1], [0, 2, 1, 0, 0, 1]), [1, 0, 1, 0]),
        ((2, samples.EDGE, [12, 0], TEN_MOVES), [10, 1, 1]),
        ((3, samples.PATH_3, [1, 0, 1], []), [0, 1, 0, 1]),
        ((3, samples.PATH_3, [1, 0, 1], [0, 0, 1]), [0, 1, 0, 1]),
        ((1, [], [3], [0, 0, 0]), [0, 3]),
        ((3, [1, 2, 0, 1], [1, 0, 1], [0, 2, 1]), [-22]),
        ((3, samples.PATH_3, [13, 0, 0], [0, 2, 1]), [-22]),
        ((3, samples.PATH_3, [1, 0, 1], [0, 2, 3]), [-22]),
        ((3, samples.PATH_3, [1, 0, 1], [0, 2]), [-22]),
    ]

    def test_lists_changed_between_two_calls(self):
        edges = [0, 1, 1, 2]
        pebbles = [1, 0, 1]
        moves = [0, 2, 1]
        self.assertEqual(apply_moves(3, edges, pebbles, moves), [1, 0, 1, 0])
        pebbles[0] = 3
        self.assertEqual(apply_moves(3, edges, pebbles, moves), [1, 2, 1, 0])
        moves += [0, 0, 1]
        self.assertEqual(apply_moves(3, edges, pebbles, moves), [2, 0, 2, 0])
        edges[2:] = []
        self.assertEqual(apply_moves(3, edges, pebbles, moves), [0, 3, 0, 1])


if __name__ == "__main__":
    unittest.main()
