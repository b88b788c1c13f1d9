"""Least sizes of blocks at positions, and tables of them that can be checked without a search."""

from flowform.equations import Equations
from flowform.solving import LeastSizes


def least_sizes(graph, depth):
    """Return the tuple of all pairs of a position that can be realized and its least size, in ascending order."""
    return tuple(sorted(list(LeastSizes(graph, depth).work.items())))


def least_size(graph, depth):
    """Return the least size of a program with the behaviour of the flow graph, or None if there is none."""
    return LeastSizes(graph, depth).start_size()


def check_sizes(graph, depth, sizes):
    """Return True if the pairs of a position and a size are those of least_sizes in any order, otherwise False."""
    equations = Equations(graph, depth)
    listed = {}
    for place, size in sizes:
        if place in listed or size < 1 or not equations.net.is_position(place, depth):
            return False
        listed[place] = size
    return equations.right_sides(listed) == listed
