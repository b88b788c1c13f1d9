"""Refutations: they show that no program has the behaviour of a flow graph and at most some jump depth."""

from flowform.continuations import few_positions
from flowform.positions import positions, possible
from flowform.solving import LeastSizes


def refute(graph, depth):
    """Return None if there is a smallest program, and otherwise all positions that no block realizes."""
    least = LeastSizes(graph, depth)
    if least.start_size() is not None:
        return None
    return tuple([place for place in positions(graph, depth) if place not in least.work])


def check_refutation(graph, depth, triples):
    """Return True if the triples are a refutation, otherwise False."""
    net = few_positions(graph, depth)
    listed = {place: True for place in triples}
    if (0, net.target, ()) not in listed or not all([net.is_position(place, depth) for place in listed]):
        return False
    known = [place for place in positions(graph, depth) if place not in listed]
    return not any([place in listed for place in possible(graph, depth, known)])
