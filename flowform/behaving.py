"""Whether a block behaves like a part of a flow graph."""

from flowform.assembling import assembled_block
from flowform.coding import answered, started
from flowform.continuations import Net
from flowform.graphs import breadth_first, follower
from flowform.programs import bodies


def behaves(graph, place, block):
    """Return True if the block behaves like the triple of a node, a continuation and loops, otherwise False."""
    net = Net(graph)
    node, continuation, loops = place
    if not (net.is_node(node) and net.is_continuation(continuation) and net.are_loops(loops)):
        return False
    if _loops_needed(block) > len(loops):
        return False
    code = assembled_block(block, continuation, loops)
    found = breadth_first((started(code), node), lambda pair: _following(code, net.nodes, pair))
    return all([_agree(net.nodes, pair) for pair in found])


def _loops_needed(body):
    """Return the number of the loops around a body to which its jumps may lead."""
    most = 0
    for statement in body:
        if statement[0] in ("break", "continue"):
            most = max(most, statement[1])
        for inner in bodies(statement):
            around = 1 if statement[0] in ("while", "for") else 0
            most = max(most, _loops_needed(inner) - around)
    return most


def _agree(nodes, pair):
    """Return True if a configuration of the block's code agrees with the node where the run is at the same time.

    The outcome of a block that is completed is the number of the node where the run must be, or else that
    of a stop or "hang", which must be the outcome of this node.
    """
    configuration, node = pair
    return configuration[1] == node or configuration[:2] == nodes[node][:2]


def _following(code, nodes, pair):
    """Return what follows after True and after False, nothing where the calls end or are not the same."""
    configuration, node = pair
    if configuration[0] == "outcome" or not _agree(nodes, pair):
        return ()
    return tuple([(answered(code, configuration, answer), follower(nodes[node], answer)) for answer in (True, False)])
