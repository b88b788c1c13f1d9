"""Programs for flow graphs: the smallest ones, and others that exist for every flow graph."""

from flowform.blocks import outcome_block, smallest
from flowform.continuations import Net
from flowform.errors import TooLarge
from flowform.graphs import minimal
from flowform.naming import named
from flowform.programs import is_too_large

MOST_CODES = 16


def restructure(graph, depth):
    """Return the smallest program of the flow graph for the jump depth, with names, or None if there is none."""
    resolved = smallest(graph, depth)
    return None if resolved is None else named(resolved)


def structured(graph):
    """Return a resolved program with the behaviour of the flow graph, without flags and try."""
    return _unfolded(minimal(graph), 0, ())


def _unfolded(nodes, number, around):
    """Return what is made at a node where the loops of the calls in around are around."""
    node = nodes[number]
    if node == ("outcome", "end") and around:
        return (("break", len(around)),)
    if node[0] == "outcome":
        return outcome_block(node[1])
    if number in around:
        return (("continue", around.index(number) + 1),)
    first = _unfolded(nodes, node[2], (number, *around))
    second = _unfolded(nodes, node[3], (number, *around))
    body = (("for", None, (("if", ("call", node[1]), first, second),)),)
    # What is too large stays so in the whole program. Without this test it could become far too large.
    if is_too_large(body):
        raise TooLarge("the program would be too large")
    return body


def with_flags(graph):
    """Return a resolved program with the behaviour of the flow graph, without jumps and try."""
    net = Net(graph)
    if net.calls == 0:
        return outcome_block(net.nodes[0][1])
    has_end = net.is_node(net.target)
    codes = net.calls + 1 if has_end else net.calls
    if codes > MOST_CODES:
        raise TooLarge("the program would be too large")
    flags = (codes - 1).bit_length()
    body = _choice(net, flags, flags, 0)
    loop = ("while", None, _differs(net.calls, flags), body) if has_end else ("for", None, body)
    return (*_set_to(0, flags), loop)


def _set_to(code, flags):
    """Return the statements that set the flags to the bits of a code."""
    return tuple([("set", flag, _has_bit(code, flag)) for flag in range(flags)])


def _has_bit(code, flag):
    return code & (1 << flag) != 0


def _differs(code, flags):
    """Return the condition that is true if and only if the flags are not the bits of the code."""
    parts = [("not", ("flag", flag)) if _has_bit(code, flag) else ("flag", flag) for flag in range(flags)]
    return parts[0] if flags == 1 else ("or", tuple(parts))


def _choice(net, flags, left, code):
    """Return the choice for the flags below left; the code has the bits that have been chosen, and no others."""
    if code >= net.calls:
        return ()
    if left > 0:
        first = _choice(net, flags, left - 1, code + (1 << (left - 1)))
        return (("if", ("flag", left - 1), first, _choice(net, flags, left - 1, code)),)
    _, name, if_true, if_false = net.nodes[code]
    return (("if", ("call", name), _lead_to(net, flags, if_true), _lead_to(net, flags, if_false)),)


def _lead_to(net, flags, node):
    """Return the statements that lead to a node; a call has its number as its code, and "end" that of the calls."""
    if node < net.calls:
        return _set_to(node, flags)
    if node == net.target:
        return _set_to(net.calls, flags)
    return outcome_block(net.nodes[node][1])
