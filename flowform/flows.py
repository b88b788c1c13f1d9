"""The flow graphs of programs."""

from flowform.exploring import explored
from flowform.graphs import few_nodes
from flowform.names import resolve


def flow_graph(program):
    """Return the flow graph of the program, a minimal one."""
    return few_nodes(explored(resolve(program)))
