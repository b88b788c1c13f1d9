"""Positions of blocks in flow graphs, and where blocks are possible."""

from flowform.continuations import few_positions, position_numbers
from flowform.equations import Equations


def position_count(graph, depth):
    """Return the number of positions."""
    return sum(position_numbers(few_positions(graph, depth), depth))


def positions(graph, depth):
    """Yield all positions in ascending order."""
    net = few_positions(graph, depth)
    rows = net.rows_of_loops(depth)
    for node, continuation in net.pairs():
        for loops in rows:
            yield (node, continuation, loops)


def possible(graph, depth, known):
    """Return the tuple of the positions at which a block is possible if some positions are known."""
    equations = Equations(graph, depth)
    # A block is possible exactly where there is a size if the known positions have one, whichever it is.
    sizes = {place: 1 for place in known if equations.net.is_position(place, depth)}
    return tuple(sorted(list(equations.right_sides(sizes))))
