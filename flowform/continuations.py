"""What positions consist of: the nodes of a minimal flow graph, its continuations and its loops."""

from flowform.errors import TooManyPositions
from flowform.graphs import minimal

MOST_PAIRS = 100
MOST_POSITIONS = 10000


class Net:
    """A minimal flow graph, the number of its calls, the number of its continuations, and its target.

    Calls have the first numbers. Nowhere, if there is one, has the number of nodes as its number.
    """

    def __init__(self, graph):
        self.nodes = minimal(graph)
        self.calls = len([node for node in self.nodes if node[0] == "call"])
        self.target = len(self.nodes)
        if ("outcome", "end") in self.nodes:
            self.target = self.nodes.index(("outcome", "end"))
        self.continuations = max(len(self.nodes), self.target + 1)

    def pair_count(self):
        """Return the number of pairs of a call and a continuation."""
        return self.calls * self.continuations

    def pairs(self):
        """Return a list of all pairs of a call and a continuation in ascending order; each of them is a loop."""
        return [(node, behind) for node in range(self.calls) for behind in range(self.continuations)]

    def rows_of_loops(self, depth):
        """Return a list of all tuples of loops that positions for the jump depth have, in ascending order."""
        if depth == 0:
            return [()]
        shorter = self.rows_of_loops(depth - 1)
        rows = [()]
        rows.extend([(loop, *row) for loop in self.pairs() for row in shorter])
        return rows

    def is_node(self, number):
        """Return True if the number is that of a node."""
        return 0 <= number < len(self.nodes)

    def is_continuation(self, number):
        """Return True if the number is that of a continuation."""
        return 0 <= number < self.continuations

    def are_loops(self, pairs):
        """Return True if all of the pairs of integers are loops."""
        return all([0 <= node < self.calls and self.is_continuation(behind) for node, behind in pairs])

    def is_position(self, place, depth):
        """Return True if a triple of two integers and a tuple of pairs is a position for the jump depth."""
        node, continuation, loops = place
        return len(loops) <= depth and self.are_loops(((node, continuation), *loops))


def few_pairs(graph):
    """Return the Net of the flow graph; raise TooManyPositions if it has too many pairs for a search."""
    net = Net(graph)
    if net.pair_count() > MOST_PAIRS:
        raise TooManyPositions(net.pair_count())
    return net


def few_positions(graph, depth):
    """Return the Net of the flow graph; raise TooManyPositions if it has too many positions for the jump depth."""
    net = Net(graph)
    most = position_numbers(net, depth)[-1]
    if net.pair_count() > MOST_PAIRS or most > MOST_POSITIONS:
        raise TooManyPositions(most)
    return net


def position_numbers(net, depth):
    """Return a list of the numbers of positions with no loop, with one loop, and so on up to the jump depth."""
    numbers = [net.pair_count()]
    for _ in range(depth):
        numbers.append(numbers[-1] * net.pair_count())
    return numbers
