"""What the tests share: graphs, inputs outside the limits, and slow ways to the answers."""

import contextlib
import io

LARGEST = 4294967295

EDGE = [0, 1]
PATH_3 = [0, 1, 1, 2]
PATH_4 = [0, 1, 1, 2, 2, 3]
PATH_5 = [0, 1, 1, 2, 2, 3, 3, 4]
TRIANGLE = [0, 1, 0, 2, 1, 2]
CYCLE_4 = [0, 1, 0, 3, 1, 2, 2, 3]
CYCLE_5 = [0, 1, 0, 4, 1, 2, 2, 3, 3, 4]
STAR_5 = [0, 1, 0, 2, 0, 3, 0, 4]
# The path 0-1-2-3 with a fifth vertex at 1: the diameter is just 3.
FORK_5 = [0, 1, 1, 2, 1, 4, 2, 3]
# A triangle with a tail of two more vertices: the diameter is just 3.
TAILED_5 = [0, 1, 0, 2, 1, 2, 2, 3, 3, 4]
ALL_5 = [0, 1, 0, 2, 0, 3, 0, 4, 1, 2, 1, 3, 1, 4, 2, 3, 2, 4, 3, 4]
TWO_PARTS_5 = [0, 1, 0, 2, 3, 4]

# Of each: vertex_count, edges. All are connected and have a diameter of at most 3.
NARROW_GRAPHS = [
    (1, []),
    (2, EDGE),
    (3, PATH_3),
    (3, TRIANGLE),
    (4, PATH_4),
    (4, CYCLE_4),
    (5, CYCLE_5),
    (5, STAR_5),
    (5, FORK_5),
    (5, TAILED_5),
    (5, ALL_5),
]

# Of each: vertex_count, edges. None is connected.
LOOSE_GRAPHS = [
    (2, []),
    (3, EDGE),
    (3, [0, 2]),
    (3, [1, 2]),
    (4, [0, 1, 2, 3]),
    (4, TRIANGLE),
    (5, []),
    (5, PATH_4),
    (5, TWO_PARTS_5),
    (5, [1, 2, 1, 3, 1, 4, 2, 3, 2, 4, 3, 4]),
]

# Of each: vertex_count, edges. All are paths of five vertices, the only connected
# graphs within the limits with a diameter greater than 3.
WIDE_GRAPHS = [
    (5, PATH_5),
    (5, [0, 2, 0, 3, 1, 3, 1, 4]),
    (5, [0, 4, 1, 2, 1, 3, 3, 4]),
    (5, [0, 1, 0, 2, 2, 3, 3, 4]),
]

# Of each: vertex_count, edges. One thing is wrong with each.
WRONG_GRAPHS = [
    # vertex_count
    (0, []),
    (6, []),
    (6, EDGE),
    (7, PATH_3),
    (LARGEST, []),
    (LARGEST, EDGE),
    # an odd number of elements
    (1, [0]),
    (3, [0]),
    (3, [0, 1, 1]),
    (5, ALL_5 + [4]),
    (5, ALL_5[:19]),
    # an endpoint that isn't a vertex
    (1, [0, 1]),
    (3, [0, 3]),
    (3, [0, 1, 1, 3]),
    (3, [1, LARGEST]),
    (5, [0, 1, 4, 5]),
    (3, [3, 4]),
    # u = v
    (1, [0, 0]),
    (3, [0, 0]),
    (3, [1, 1]),
    (3, [0, 1, 1, 1]),
    (5, [0, 1, 4, 4]),
    # u > v
    (2, [1, 0]),
    (3, [0, 1, 2, 1]),
    (5, [0, 4, 4, 3]),
    # not in strictly increasing lexicographic order
    (3, [1, 2, 0, 1]),
    (3, [0, 2, 0, 1]),
    (3, [0, 1, 1, 2, 0, 2]),
    (5, [0, 1, 0, 2, 3, 4, 2, 3]),
    # a pair told twice
    (2, [0, 1, 0, 1]),
    (3, [0, 1, 1, 2, 1, 2]),
    (3, [0, 1, 1, 2, 0, 1]),
    # 22 elements
    (5, ALL_5 + [3, 4]),
    (5, [0, 1] + ALL_5),
    (5, ALL_5 + [4, 5]),
    (5, [0, 1] * 11),
    (5, [0] * 22),
    (5, [LARGEST] * 22),
]

# Of each: vertex_count, edges, pebbles. The graph is within its limits.
WRONG_PEBBLES = [
    # no element
    (1, [], []),
    (3, PATH_3, []),
    # fewer and more elements than vertices
    (2, EDGE, [1]),
    (3, PATH_3, [1, 0]),
    (5, ALL_5, [1, 1, 1, 1]),
    (1, [], [1, 0]),
    (3, PATH_3, [1, 0, 1, 0]),
    (5, ALL_5, [1, 1, 1, 1, 1, 1]),
    # 7 elements
    (1, [], [0, 0, 0, 0, 0, 0, 0]),
    (5, ALL_5, [1, 1, 1, 1, 1, 1, 1]),
    # the sum 13
    (1, [], [13]),
    (3, PATH_3, [12, 0, 1]),
    (3, PATH_3, [4, 5, 4]),
    (5, ALL_5, [3, 3, 3, 3, 1]),
    # larger elements
    (1, [], [LARGEST]),
    (3, PATH_3, [LARGEST, 0, 0]),
    (3, PATH_3, [0, 0, LARGEST]),
    (5, ALL_5, [LARGEST] * 5),
]


class GuardedList(list):
    """A list that refuses every change, be it taken back again or not."""

    def refuse(self, *args, **kwargs):
        raise AssertionError("a list that was handed in is changed")

    __setitem__ = __delitem__ = __iadd__ = __imul__ = refuse
    append = clear = extend = insert = pop = remove = reverse = sort = refuse


class LeavesAllAsItWas:
    """What every operation keeps to; stands ahead of unittest.TestCase among the bases.

    The class that has it as its base brings `operation` and CALLS, of each call the
    arguments and the answer.
    """

    def test_lists_handed_in_are_not_changed(self):
        for arguments, expected in self.CALLS:
            guarded = [
                GuardedList(argument) if isinstance(argument, list) else argument
                for argument in arguments
            ]
            self.assertEqual(self.operation(*guarded), expected, arguments)
            self.assertEqual(guarded, list(arguments))

    def test_same_call_again_gives_the_same(self):
        for _ in range(3):
            for arguments, expected in self.CALLS:
                answer = self.operation(*arguments)
                self.assertEqual(answer, expected, arguments)
                # The answer is the caller's own: changing it must not reach the next call.
                answer.append(99)

    def test_nothing_is_printed(self):
        out = io.StringIO()
        with contextlib.redirect_stdout(out), contextlib.redirect_stderr(out):
            for arguments, _ in self.CALLS:
                self.operation(*arguments)
        self.assertEqual(out.getvalue(), "")


def matching_pebbles(vertex_count):
    """A configuration that fits the vertex count, so that it can't be the error."""
    return [0] * min(vertex_count, 7)


def graphs_up_to(most_vertices):
    """Every graph with at most that many vertices, as vertex_count and edges."""
    graphs = []
    for vertex_count in range(1, most_vertices + 1):
        pairs = [(u, v) for u in range(vertex_count) for v in range(u + 1, vertex_count)]
        for chosen in range(2 ** len(pairs)):
            edges = []
            for place, pair in enumerate(pairs):
                if chosen >> place & 1:
                    edges += pair
            graphs.append((vertex_count, edges))
    return graphs


def configurations(vertex_count, most_pebbles):
    """Every configuration with at most that many pebbles."""
    if vertex_count == 0:
        return [[]]
    return [
        [number] + rest
        for number in range(most_pebbles + 1)
        for rest in configurations(vertex_count - 1, most_pebbles - number)
    ]


def distances(vertex_count, edges):
    """The distance of every two vertices, as a table; None where no path leads."""
    far = vertex_count
    table = [[0 if u == v else far for v in range(vertex_count)] for u in range(vertex_count)]
    for place in range(0, len(edges), 2):
        u, v = edges[place : place + 2]
        table[u][v] = table[v][u] = 1
    for through in range(vertex_count):
        for u in range(vertex_count):
            for v in range(vertex_count):
                table[u][v] = min(table[u][v], table[u][through] + table[through][v])
    return [[None if distance >= far else distance for distance in row] for row in table]


def is_narrow(vertex_count, edges):
    """Whether the graph is connected, with a diameter of at most 3."""
    found = sum(distances(vertex_count, edges), [])
    return None not in found and max(found) <= 3


class SlowWay:
    """Goes through the sequences of moves of one graph, depth first.

    Depth first, by an adjacency matrix and with both orders of each pair, so that
    it shares no step with the program.
    """

    def __init__(self, vertex_count, edges, pebbling_only=False):
        self.vertices = range(vertex_count)
        self.adjacent = [[False] * vertex_count for u in self.vertices]
        for place in range(0, len(edges), 2):
            u, v = edges[place : place + 2]
            self.adjacent[u][v] = self.adjacent[v][u] = True
        self.pebbling_only = pebbling_only
        self.known = {}

    def followers(self, pebbles):
        """Every configuration that one move leads to."""
        found = []
        for target in self.vertices:
            for first in self.vertices:
                for second in self.vertices:
                    if self.pebbling_only and first != second:
                        continue
                    if not (self.adjacent[first][target] and self.adjacent[second][target]):
                        continue
                    after = list(pebbles)
                    after[first] -= 1
                    after[second] -= 1
                    if after[first] >= 0 and after[second] >= 0:
                        after[target] += 1
                        found.append(tuple(after))
        return found

    def fewest_moves(self, target, count, pebbles):
        """The smallest number of moves, or None if no sequence of moves is enough."""
        if pebbles[target] >= count:
            return 0
        key = ("fewest", target, count, tuple(pebbles))
        if key not in self.known:
            further = [self.fewest_moves(target, count, after) for after in self.followers(pebbles)]
            reached = [moves + 1 for moves in further if moves is not None]
            self.known[key] = min(reached, default=None)
        return self.known[key]

    def most_pebbles(self, target, pebbles):
        """The largest number of pebbles on the target after any number of moves."""
        key = ("most", target, tuple(pebbles))
        if key not in self.known:
            further = [self.most_pebbles(target, after) for after in self.followers(pebbles)]
            self.known[key] = max([pebbles[target]] + further)
        return self.known[key]

    def reaches_all(self, pebbles):
        """Whether every vertex is reachable."""
        return all(self.most_pebbles(target, pebbles) >= 1 for target in self.vertices)

    def smallest_number(self, target):
        """The smallest positive number of pebbles that reaches the target wherever they lie."""
        number = 1
        while not all(
            self.most_pebbles(target, pebbles) >= 1
            for pebbles in configurations(len(self.vertices), number)
            if sum(pebbles) == number
        ):
            number += 1
        return number
