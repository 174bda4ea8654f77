"""Rubbling on small graphs: how many pebbles come to a vertex, with how few moves.

Every operation answers a list of whole numbers; an error is its code alone.
"""

MOST_VERTICES = 5
MOST_PEBBLES = 12

NO_SUCH_TARGET = -2
OUTSIDE_LIMITS = -22
NOT_REACHED = -33


def min_moves(vertex_count, target, count, edges, pebbles):
    """Answer the smallest number of moves after which the target has `count` pebbles."""
    code = first_error(vertex_count, target, edges, pebbles)
    if code is not None:
        return [code]
    moves = all_moves(vertex_count, edges)
    layer = first_layer(pebbles)
    moves_made = 0
    # Every move takes a pebble away, so there comes a layer without a configuration.
    while len(layer) > 0:
        if most_on(target, layer) >= count:
            return [moves_made]
        layer = next_layer(layer, moves)
        moves_made += 1
    return [NOT_REACHED]


def max_pebbles_at(vertex_count, target, edges, pebbles):
    """Answer the largest number of pebbles on the target after any number of moves."""
    code = first_error(vertex_count, target, edges, pebbles)
    if code is not None:
        return [code]
    moves = all_moves(vertex_count, edges)
    layer = first_layer(pebbles)
    most = 0
    # The largest number can stand in any layer: a move may take pebbles off the target.
    while len(layer) > 0:
        most = max(most, most_on(target, layer))
        layer = next_layer(layer, moves)
    return [most]


def first_error(vertex_count, target, edges, pebbles):
    """Give the code of the first error that applies, or None."""
    if not is_graph(vertex_count, edges):
        return OUTSIDE_LIMITS
    if not is_configuration(vertex_count, pebbles):
        return OUTSIDE_LIMITS
    if target >= vertex_count:
        return NO_SUCH_TARGET
    return None


def is_graph(vertex_count, edges):
    """Tell whether the number of vertices and the edges are within their limits."""
    if vertex_count < 1 or vertex_count > MOST_VERTICES:
        return False
    if len(edges) % 2 != 0:
        return False
    # No edge is (0, 0), and every edge comes behind it.
    last = (0, 0)
    for edge in edge_pairs(edges):
        if edge[0] >= edge[1] or edge[1] >= vertex_count or edge <= last:
            return False
        last = edge
    return True


def is_configuration(vertex_count, pebbles):
    """Tell whether there is a number for each vertex and the sum is within its limit."""
    return len(pebbles) == vertex_count and sum(pebbles) <= MOST_PEBBLES


def edge_pairs(edges):
    """Give the edges as pairs, in their order."""
    return [(edges[place], edges[place + 1]) for place in range(0, len(edges), 2)]


def neighbour_lists(vertex_count, edges):
    """Give for each vertex the list of its neighbours."""
    neighbours = [[] for vertex in range(vertex_count)]
    for u, v in edge_pairs(edges):
        neighbours[u].append(v)
        neighbours[v].append(u)
    return neighbours


def all_moves(vertex_count, edges):
    """Give every rubbling move of the graph as (first, second, target)."""
    neighbours = neighbour_lists(vertex_count, edges)
    moves = []
    for target in range(vertex_count):
        for first in neighbours[target]:
            for second in neighbours[target]:
                # The same two vertices the other way round are the same move.
                if first <= second:
                    moves.append((first, second, target))
    return moves


def first_layer(pebbles):
    """Give the layer of the configuration from which no move was made yet."""
    return {tuple(pebbles): True}


def next_layer(layer, moves):
    """Give the configurations that are one move away from those of the layer, each one once."""
    following = {}
    for configuration in layer:
        for first, second, target in moves:
            if can_move(configuration, first, second):
                following[after_move(configuration, first, second, target)] = True
    return following


def can_move(configuration, first, second):
    """Tell whether there is a pebble to take from each of the two."""
    if first == second:
        return configuration[first] >= 2
    return configuration[first] >= 1 and configuration[second] >= 1


def after_move(configuration, first, second, target):
    """Give the configuration that the move leads to."""
    changed = list(configuration)
    changed[first] -= 1
    changed[second] -= 1
    changed[target] += 1
    return tuple(changed)


def most_on(target, layer):
    """Give the largest number of pebbles on the target in the layer."""
    return max([configuration[target] for configuration in layer])
