"""Rubbling on small graphs: what moves do, how many pebbles they bring, how few are enough.

Every operation answers a list of whole numbers; an error is its code alone.
"""

MOST_VERTICES = 5
MOST_PEBBLES = 12
MOST_MOVES = 10
LARGEST_DIAMETER = 3

NO_SUCH_TARGET = -2
OUTSIDE_LIMITS = -22
NOT_REACHED = -33
NOT_CONNECTED = -33
DIAMETER_TOO_LARGE = -75


def min_moves(vertex_count, target, count, edges, pebbles):
    """Answer the smallest number of moves after which the target has `count` pebbles."""
    code = first_error(vertex_count, target, edges, pebbles)
    if code is not None:
        return [code]
    moves = all_moves(vertex_count, edges)
    layer = first_layer(pebbles)
    moves_made = 0
    # Every move takes a pebble away, so there comes a layer without a configuration.
    while len(layer) > 0:
        if most_on(target, layer) >= count:
            return [moves_made]
        layer = next_layer(layer, moves)
        moves_made += 1
    return [NOT_REACHED]


def max_pebbles_at(vertex_count, target, edges, pebbles):
    """Answer the largest number of pebbles on the target after any number of moves."""
    code = first_error(vertex_count, target, edges, pebbles)
    if code is not None:
        return [code]
    return [most_after_moves(target, pebbles, all_moves(vertex_count, edges))]


def rubbling_number(vertex_count, target, edges):
    """Answer the smallest number of pebbles that reaches the target wherever they lie."""
    code = first_error_of_number(vertex_count, target, edges)
    if code is not None:
        return [code]
    return [smallest_number(vertex_count, target, all_moves(vertex_count, edges))]


def savings(vertex_count, target, edges):
    """Answer the pebbling number of the target minus its rubbling number."""
    code = first_error_of_number(vertex_count, target, edges)
    if code is not None:
        return [code]
    moves = all_moves(vertex_count, edges)
    by_pebbling = smallest_number(vertex_count, target, pebbling_moves(moves))
    by_rubbling = smallest_number(vertex_count, target, moves)
    return [by_pebbling - by_rubbling]


def optimal_configuration(vertex_count, edges):
    """Answer the fewest pebbles from which every vertex can be reached, and where they lie."""
    if not is_graph(vertex_count, edges):
        return [OUTSIDE_LIMITS]
    moves = all_moves(vertex_count, edges)
    layer = first_layer([0] * vertex_count)
    optimal = None
    # One pebble on each vertex is always enough, so an optimal configuration is found.
    while optimal is None:
        layer = next_fuller_layer(layer)
        optimal = first_reaching_all(layer, moves)
    return [sum(optimal)] + list(optimal)


def apply_moves(vertex_count, edges, pebbles, moves):
    """Answer how many of the moves are performed, and the configuration that they lead to."""
    if not is_graph(vertex_count, edges) or not is_configuration(vertex_count, pebbles):
        return [OUTSIDE_LIMITS]
    if not is_list_of_moves(vertex_count, moves):
        return [OUTSIDE_LIMITS]
    neighbours = neighbour_lists(vertex_count, edges)
    configuration = tuple(pebbles)
    moves_made = 0
    for first, second, target in move_triples(moves):
        if not is_possible(configuration, neighbours[target], first, second):
            break
        configuration = after_move(configuration, first, second, target)
        moves_made += 1
    return [moves_made] + list(configuration)


def first_error(vertex_count, target, edges, pebbles):
    """Give the code of the first error that applies, or None."""
    if not is_graph(vertex_count, edges):
        return OUTSIDE_LIMITS
    if not is_configuration(vertex_count, pebbles):
        return OUTSIDE_LIMITS
    if target >= vertex_count:
        return NO_SUCH_TARGET
    return None


def first_error_of_number(vertex_count, target, edges):
    """Give the code of the first error that applies where no pebbles are handed in, or None."""
    if not is_graph(vertex_count, edges):
        return OUTSIDE_LIMITS
    neighbours = neighbour_lists(vertex_count, edges)
    if not is_connected(neighbours):
        return NOT_CONNECTED
    if diameter(neighbours) > LARGEST_DIAMETER:
        return DIAMETER_TOO_LARGE
    if target >= vertex_count:
        return NO_SUCH_TARGET
    return None


def is_graph(vertex_count, edges):
    """Tell whether the number of vertices and the edges are within their limits."""
    if vertex_count < 1 or vertex_count > MOST_VERTICES:
        return False
    if len(edges) % 2 != 0:
        return False
    # No edge is (0, 0), and every edge comes behind it.
    last = (0, 0)
    for edge in edge_pairs(edges):
        if edge[0] >= edge[1] or edge[1] >= vertex_count or edge <= last:
            return False
        last = edge
    return True


def is_configuration(vertex_count, pebbles):
    """Tell whether there is a number for each vertex and the sum is within its limit."""
    return len(pebbles) == vertex_count and sum(pebbles) <= MOST_PEBBLES


def is_list_of_moves(vertex_count, moves):
    """Tell whether there are whole moves, not too many, that name vertices alone."""
    if len(moves) > 3 * MOST_MOVES or len(moves) % 3 != 0:
        return False
    return all([vertex < vertex_count for vertex in moves])


def edge_pairs(edges):
    """Give the edges as pairs, in their order."""
    return [(edges[place], edges[place + 1]) for place in range(0, len(edges), 2)]


def move_triples(moves):
    """Give the moves as (first, second, target), in their order."""
    return [tuple(moves[place:place + 3]) for place in range(0, len(moves), 3)]


def neighbour_lists(vertex_count, edges):
    """Give for each vertex the list of its neighbours."""
    neighbours = [[] for vertex in range(vertex_count)]
    for u, v in edge_pairs(edges):
        neighbours[u].append(v)
        neighbours[v].append(u)
    return neighbours


def is_connected(neighbours):
    """Tell whether a path leads from the vertex 0 to every other one."""
    return len(distances_from(0, neighbours)) == len(neighbours)


def diameter(neighbours):
    """Give the largest distance between two vertices of a connected graph."""
    largest = 0
    for start in range(len(neighbours)):
        largest = max(largest, max(distances_from(start, neighbours).values()))
    return largest


def distances_from(start, neighbours):
    """Give, by vertex, the distance of each one to which a path leads."""
    distances = {start: 0}
    waiting = [start]
    while len(waiting) > 0:
        vertex = waiting.pop(0)
        for neighbour in neighbours[vertex]:
            if neighbour not in distances:
                distances[neighbour] = distances[vertex] + 1
                waiting.append(neighbour)
    return distances


def all_moves(vertex_count, edges):
    """Give every rubbling move of the graph as (first, second, target)."""
    neighbours = neighbour_lists(vertex_count, edges)
    moves = []
    for target in range(vertex_count):
        for first in neighbours[target]:
            for second in neighbours[target]:
                # The same two vertices the other way round are the same move.
                if first <= second:
                    moves.append((first, second, target))
    return moves


def pebbling_moves(moves):
    """Give those of the moves that take both pebbles from one vertex."""
    return [(first, second, target) for first, second, target in moves if first == second]


def first_layer(pebbles):
    """Give the layer of the configuration from which no move was made yet."""
    return {tuple(pebbles): True}


def next_layer(layer, moves):
    """Give the configurations that are one move away from those of the layer, each one once."""
    following = {}
    for configuration in layer:
        for first, second, target in moves:
            if can_move(configuration, first, second):
                following[after_move(configuration, first, second, target)] = True
    return following


def is_possible(configuration, neighbours, first, second):
    """Tell whether the move to the vertex with these neighbours can be performed."""
    # What isn't adjacent to its target is no rubbling move, whatever pebbles there are.
    if first not in neighbours or second not in neighbours:
        return False
    return can_move(configuration, first, second)


def can_move(configuration, first, second):
    """Tell whether there is a pebble to take from each of the two."""
    if first == second:
        return configuration[first] >= 2
    return configuration[first] >= 1 and configuration[second] >= 1


def after_move(configuration, first, second, target):
    """Give the configuration that the move leads to."""
    changed = list(configuration)
    changed[first] -= 1
    changed[second] -= 1
    changed[target] += 1
    return tuple(changed)


def most_on(target, layer):
    """Give the largest number of pebbles on the target in the layer."""
    return max([configuration[target] for configuration in layer])


def most_after_moves(target, pebbles, moves):
    """Give the largest number of pebbles on the target after any number of the moves."""
    layer = first_layer(pebbles)
    most = 0
    # The largest number can stand in any layer: a move may take pebbles off the target.
    while len(layer) > 0:
        most = max(most, most_on(target, layer))
        layer = next_layer(layer, moves)
    return most


def smallest_number(vertex_count, target, moves):
    """Give the smallest number of pebbles that reaches the target by the moves wherever they lie."""
    failing = first_layer([0] * vertex_count)
    number = 0
    # In a connected graph enough pebbles always reach the target, so the layers come to an end.
    while len(failing) > 0:
        failing = next_failing_layer(failing, target, moves)
        number += 1
    return number


def next_failing_layer(failing, target, moves):
    """Give the configurations that don't reach the target with one pebble more than these."""
    following = {}
    # A pebble more never hinders, so what fails with it fails without it, too.
    for configuration in failing:
        for vertex in range(len(configuration)):
            fuller = with_one_more(configuration, vertex)
            if vertex != target and every_move_fails(fuller, moves, failing):
                following[fuller] = True
    return following


def with_one_more(configuration, vertex):
    """Give the configuration with one more pebble on the vertex."""
    changed = list(configuration)
    changed[vertex] += 1
    return tuple(changed)


def every_move_fails(configuration, moves, failing):
    """Tell whether each move that is possible leads to one of the failing configurations."""
    for first, second, target in moves:
        if can_move(configuration, first, second):
            if after_move(configuration, first, second, target) not in failing:
                return False
    return True


def next_fuller_layer(layer):
    """Give the configurations with one pebble more than those of the layer, each one once."""
    following = {}
    for configuration in layer:
        for vertex in range(len(configuration)):
            following[with_one_more(configuration, vertex)] = True
    return following


def first_reaching_all(layer, moves):
    """Give the lexicographically first configuration that reaches every vertex, or None."""
    for configuration in sorted(layer):
        if reaches_all(configuration, moves):
            return configuration
    return None


def reaches_all(configuration, moves):
    """Tell whether every vertex is reachable, each one by a sequence of moves of its own."""
    for target in range(len(configuration)):
        if most_after_moves(target, configuration, moves) == 0:
            return False
    return True
