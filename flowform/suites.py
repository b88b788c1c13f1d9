"""Suites of answers that tell a flow graph from all others that are not much larger."""

from flowform.comparing import compare
from flowform.errors import TooLarge
from flowform.graphs import answers_to, breadth_first, minimal, rooted, run_graph

MOST_NODES_OF_A_SUITE = 10


def suite(graph, *, extra=0):
    """Return the tuple of the rows of answers by which other flow graphs with few more nodes are told apart."""
    small = minimal(graph)
    if len(small) > MOST_NODES_OF_A_SUITE:
        raise TooLarge("the minimal flow graph has too many nodes for a suite")
    middle_rows = _rows_up_to(extra + 1)
    telling_rows = _telling_rows(small)
    rows = {}
    for access in _access_rows(small):
        for middle in middle_rows:
            for telling in telling_rows:
                rows[_taken(small, access + middle + telling)] = True
    return tuple(sorted(list(rows), key=_place_in_order))


def _access_rows(graph):
    """Return a list of the first rows of answers that lead to the nodes."""
    found = breadth_first(0, lambda node: graph[node][2:])
    return [answers_to(found, node) for node in found]


def _rows_up_to(most):
    """Return a list of all rows of at most so many answers."""
    rows = [()]
    longest = [()]
    for _ in range(most):
        longest = [(*row, answer) for row in longest for answer in (True, False)]
        rows.extend(longest)
    return rows


def _telling_rows(graph):
    """Return a list of the empty row and of the telling answers of any two nodes of a minimal flow graph."""
    flows = [rooted(graph, node) for node in range(len(graph))]
    rows = [()]
    for number, one in enumerate(flows):
        for other in flows[:number]:
            rows.append(compare(one, other)[0])
    return rows


def _taken(graph, row):
    """Return the answers of the row that a run takes before it ends."""
    return row[:len(run_graph(graph, row)) - 1]


def _place_in_order(row):
    """Return by what rows of answers are ordered: the shorter one first, then True before False."""
    return (len(row), tuple([0 if answer else 1 for answer in row]))
