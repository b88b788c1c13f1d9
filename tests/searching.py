"""Searches without any cleverness: all conditions and all blocks, their orders, and what they do in flow graphs."""

import functools
import itertools
import random

from flowform.graphs import minimal
from tests.helpers import Hangs, Interpreter, Waiting

END = ("outcome", "end")
HANG = ("outcome", "hang")
RETURN = ("outcome", "return")


def call(name, if_true, if_false):
    """Return a call node."""
    return ("call", name, if_true, if_false)


# The flow graphs of [145], of while (a()) b();, and of [183].
ROWS = (call("row", 1, 4), call("cell", 2, 3), call("bad", 0, 1), call("good", 0, 0), END)
ONE = (call("a", 1, 2), call("b", 0, 0), END)
BREAKS = (call("a", 3, 1), call("b", 2, 0), call("c", 3, 3), END)

# Their names are the least sizes of programs with the jump depth 1.
FORTY = (
    call("g", 1, 2), call("f", 0, 3), call("d", 4, 5), call("a", 3, 4), call("a", 5, 7), call("d", 6, 4),
    call("h", 1, 0), END)
FORTY_ONE = (
    call("h", 1, 2), call("e", 2, 3), call("d", 4, 3), call("a", 5, 1), call("h", 5, 7), call("b", 3, 6),
    call("e", 0, 3), END)


def row_graph(calls, outcomes, names="abcdefghijklm"):
    """Return a minimal flow graph with so many calls and these outcomes, at most one more than there are calls.

    The calls follow each other after True; after False comes an outcome, or the first call.
    """
    nodes = []
    for number in range(calls):
        after_false = 0 if number + 1 >= len(outcomes) else calls + 1 + number
        if_true = number + 1 if number + 1 < calls else (calls if outcomes else 0)
        nodes.append(call(names[number], if_true, after_false))
    return minimal(tuple(nodes) + tuple(("outcome", outcome) for outcome in outcomes))


def any_graph(seed, calls, outcomes, names="ab"):
    """Return a minimal flow graph made of at most so many calls and these outcomes."""
    chooser = random.Random(seed)
    many = calls + len(outcomes)
    nodes = [call(chooser.choice(names), chooser.randrange(many), chooser.randrange(many)) for _ in range(calls)]
    return minimal(tuple(nodes) + tuple(("outcome", outcome) for outcome in outcomes))


def call_count(nodes):
    return sum(node[0] == "call" for node in nodes)


def target_of(nodes):
    """Return the target in a minimal flow graph."""
    return nodes.index(END) if END in nodes else len(nodes)


def continuation_count(nodes):
    return len(nodes) + (END not in nodes)


def all_loops(nodes):
    return list(itertools.product(range(call_count(nodes)), range(continuation_count(nodes))))


def all_rows(nodes, depth):
    """Return all tuples of at most so many loops."""
    return [row for many in range(depth + 1) for row in itertools.product(all_loops(nodes), repeat=many)]


def all_positions(nodes, depth):
    """Return all positions, ordered as Python orders them."""
    return sorted((node, behind, row) for node, behind in all_loops(nodes) for row in all_rows(nodes, depth))


# Conditions: the calls in them, the order of [142], and what [141] says of what they lead to.


def condition_size(condition):
    kind, inner = condition
    if kind == "call":
        return 1
    return sum(map(condition_size, [inner] if kind == "not" else inner))


def rest_of(condition):
    kind, parts = condition
    return parts[1] if len(parts) == 2 else (kind, parts[1:])


def order(first, second):
    return (first > second) - (first < second)


def compare_conditions(first, second):
    """Return -1, 0 or 1 by the rules of [142]."""
    difference = order(condition_size(first), condition_size(second))
    difference = difference or order(*(["call", "not", "and", "or"].index(one[0]) for one in (first, second)))
    if difference:
        return difference
    if first[0] == "call":
        return order(first[1], second[1])
    if first[0] == "not":
        return order(first[1][1], second[1][1])
    return compare_conditions(first[1][0], second[1][0]) or compare_conditions(rest_of(first), rest_of(second))


@functools.cache
def all_conditions(names, size, outside=None):
    """Return all conditions of a size that negate only calls and are no chain of the kind outside."""
    if size == 1:
        return [("call", name) for name in names] + [("not", ("call", name)) for name in names]
    return [(kind, parts) for kind in ("and", "or") if kind != outside for parts in _all_chains(names, size, kind)]


@functools.cache
def _all_chains(names, size, kind):
    chains = []
    for first_size in range(1, size):
        for first in all_conditions(names, first_size, kind):
            chains += [(first, second) for second in all_conditions(names, size - first_size, kind)]
            chains += [(first,) + rest for rest in _all_chains(names, size - first_size, kind)]
    return chains


class OtherCall(Exception):
    """A condition makes another call than the run."""


def plain_leads(nodes, condition, node):
    """Return what leads does, from all ways in which the condition can be evaluated at the node."""
    try:
        ways = _ways(nodes, condition, node)
    except OtherCall:
        return None
    ends = [{end for value, end in ways if value == wanted} for wanted in (True, False)]
    if [len(found) for found in ends] != [1, 1]:
        return None
    return (ends[0].pop(), ends[1].pop())


def _ways(nodes, condition, node):
    """Return the set of pairs of a value of the condition and the node to which the run has come."""
    kind, inner = condition
    if kind == "call":
        if nodes[node][:2] != condition:
            raise OtherCall
        return {(True, nodes[node][2]), (False, nodes[node][3])}
    if kind == "not":
        return {(not value, end) for value, end in _ways(nodes, inner, node)}
    goes_on = kind == "and"
    ways = {(goes_on, node)}
    for part in inner:
        ways = {way for value, end in ways
                for way in (_ways(nodes, part, end) if value == goes_on else {(value, end)})}
    return ways


# Blocks: their sizes, the order of [170], and what [154] says of what they behave like.


def block_size(block):
    return sum(map(statement_size, block))


def statement_size(statement):
    kind = statement[0]
    if kind == "if":
        second = block_size(statement[3])
        return 1 + condition_size(statement[1]) + block_size(statement[2]) + (1 + second if second else 0)
    if kind == "while":
        return 1 + condition_size(statement[2]) + block_size(statement[3])
    if kind == "for":
        return 1 + block_size(statement[2])
    return 1


def compare_blocks(first, second):
    """Return -1, 0 or 1 by the rules of [170]."""
    difference = order(block_size(first), block_size(second)) or order(len(first), len(second))
    if difference or not first:
        return difference
    if len(first) > 1:
        return compare_blocks(first[:1], second[:1]) or compare_blocks(first[1:], second[1:])
    kinds = ["break", "continue", "stop", "call", "if", "while", "for"]
    (one,), (other,) = first, second
    difference = order(kinds.index(one[0]), kinds.index(other[0]))
    if difference:
        return difference
    if one[0] == "stop":
        return compare_outcomes(one[1], other[1])
    if one[0] == "if":
        return (compare_conditions(one[1], other[1]) or compare_blocks(one[2], other[2])
                or compare_blocks(one[3], other[3]))
    if one[0] == "while":
        return compare_conditions(one[2], other[2]) or compare_blocks(one[3], other[3])
    return compare_blocks(one[2], other[2]) if one[0] == "for" else order(one[1], other[1])


def compare_outcomes(first, second):
    """Return -1, 0 or 1 by the order of the outcomes of stops."""
    def kind(outcome):
        return 1 if outcome.startswith("return ") else ["return", "", "break", "continue"].index(outcome.split()[0])
    if kind(first) != kind(second) or first == "return":
        return order(kind(first), kind(second))
    one, other = first.split()[1], second.split()[1]
    return order(int(one), int(other)) if kind(first) == 1 else order(one, other)


def has_other_negations(block):
    """Return True if more than calls are negated in a block."""
    text = repr(block)
    return any(f"('not', ('{kind}'" in text for kind in ("not", "and", "or"))


@functools.cache
def all_statements(names, outcomes, size, loops, depth):
    """Return all statements of a size in which only calls are negated, and stops have one of the outcomes.

    There are so many loops around them to which jumps may lead, in loops inside of them up to the depth.
    """
    found = []
    if size == 1:
        found += [(word, n + 1) for word in ("break", "continue") for n in range(loops)]
        found += [("stop", outcome) for outcome in outcomes] + [("call", name) for name in names]
    inner = min(loops + 1, depth)
    for condition_part in range(1, size):
        left = size - 1 - condition_part
        for condition in all_conditions(names, condition_part):
            for body in all_blocks(names, outcomes, left, loops, depth):
                found.append(("if", condition, body, ()))
            for second_size in range(1, left):
                for first in all_blocks(names, outcomes, left - 1 - second_size, loops, depth):
                    for second in all_blocks(names, outcomes, second_size, loops, depth):
                        found.append(("if", condition, first, second))
            for body in all_blocks(names, outcomes, left, inner, depth):
                found.append(("while", None, condition, body))
    return found + [("for", None, body) for body in all_blocks(names, outcomes, size - 1, inner, depth)]


@functools.cache
def all_blocks(names, outcomes, size, loops, depth):
    """Return all blocks of a size that consist of such statements as those of all_statements."""
    if size == 0:
        return [()]
    return [(first,) + rest for first_size in range(1, size + 1)
            for first in all_statements(names, outcomes, first_size, loops, depth)
            for rest in all_blocks(names, outcomes, size - first_size, loops, depth)]


def endings(nodes, node, block):
    """Return the ways in which the block is completed when a run starts at the node, or None.

    None if the block makes another call than the run. Otherwise a set of pairs: how the block is completed
    (None if normally, "hang" if never), and the node where the run is then; and True if a call is made first.
    """
    waiting = [((), node)]
    seen = set()
    found = set()
    while waiting:
        row, at = waiting.pop()
        one = Interpreter(row, 200)
        try:
            found.add((one.body(block, ()), at))
        except Hangs:
            found.add(("hang", at))
        except Waiting:
            if nodes[at][:2] != one.configuration[:2]:
                return None
            if (one.configuration, at) not in seen:
                seen.add((one.configuration, at))
                waiting += [(row + (True,), nodes[at][2]), (row + (False,), nodes[at][3])]
    return found, bool(seen)


def fits(nodes, ends, continuation, loops):
    """Return True if a block that is completed in these ways behaves like a triple with these loops."""
    for completion, at in ends:
        if completion == "hang":
            right = nodes[at] == HANG
        elif completion is None:
            right = at == continuation
        elif completion[0] == "stop":
            right = nodes[at] == ("outcome", completion[1])
        else:
            right = at == loops[completion[1] - 1][1 if completion[0] == "break" else 0]
        if not right:
            return False
    return True


def plain_behaves(nodes, place, block):
    """Return what behaves does for a triple with a node, a continuation and loops, if the jumps have loops."""
    found = endings(nodes, place[0], block)
    return found is not None and fits(nodes, found[0], *place[1:])


# Least sizes and possible blocks, as [160] and [163] say them.


def leads_from(nodes, most):
    """Return a dict: for each (q, a, b) the least size, up to most, of a condition that leads there."""
    found = {}
    for number, node in enumerate(nodes):
        if node[0] == "call":
            found[number, node[2], node[3]] = found[number, node[3], node[2]] = 1
    changed = True
    while changed:
        changed = False
        for (start, one, other), (middle, if_true, if_false) in itertools.product(list(found), repeat=2):
            size = found[start, one, other] + found[middle, if_true, if_false]
            for goal, joined in (((start, if_true, other), one == middle and if_false == other),
                                 ((start, one, if_false), other == middle and if_true == one)):
                if joined and size <= most and size < found.get(goal, most + 1):
                    found[goal] = size
                    changed = True
    return found


NONE = float("inf")


def plain_block(nodes, node, continuation, loops, work):
    """Return block(q, c, L) of [160], where none is infinite."""
    if node == continuation:
        return 0
    if node == len(nodes):
        return NONE
    if any(node in loop for loop in loops):
        return 1
    if nodes[node][0] == "outcome":
        return NONE if nodes[node] == END else 1
    return work.get((node, continuation, loops), NONE)


def plain_right_sides(nodes, depth, conditions, work):
    """Return the sizes of work by the right sides of the equations of [160], where work is not none."""
    every = range(continuation_count(nodes))
    found = {}
    for loops in all_rows(nodes, depth):
        for node in range(call_count(nodes)):
            statements = [plain_statement(nodes, depth, conditions, work, (node, behind, loops)) for behind in every]
            for continuation in every:
                size = min(statements[behind] + plain_block(nodes, behind, continuation, loops, work)
                           for behind in every)
                if size < NONE:
                    found[node, continuation, loops] = size
    return found


def plain_statement(nodes, depth, conditions, work, place):
    """Return statement(q, y, L) of [160]."""
    node, behind, loops = place
    inner = (((node, behind),) + loops)[:depth]
    found = [1 + work.get((node, node, inner), NONE)]
    if nodes[node][2] == nodes[node][3] == behind:
        found.append(1)
    for (start, if_true, if_false), size in conditions.items():
        if start == node:
            second = plain_block(nodes, if_false, behind, loops, work)
            second = 1 + second if second else 0
            found.append(1 + size + plain_block(nodes, if_true, behind, loops, work) + second)
            if if_false == behind:
                found.append(1 + size + plain_block(nodes, if_true, node, inner, work))
    return min(found)


def plain_sizes(nodes, depth):
    """Return the dict of all least sizes of work, by going through the equations until nothing changes."""
    conditions = leads_from(nodes, 100)
    work = {}
    while True:
        after = plain_right_sides(nodes, depth, conditions, work)
        if after == work:
            return work
        work = after


def plain_possible(nodes, depth, known):
    """Return the set of the positions where a block is possible, as [163] says it."""
    conditions = list(leads_from(nodes, 1000))

    def block(node, behind, loops):
        if node == behind:
            return True
        if node < len(nodes) and node in itertools.chain(*loops):
            return True
        if node < len(nodes) and nodes[node][0] == "outcome":
            return nodes[node] != END
        return (node, behind, loops) in known

    def statement(node, behind, loops):
        inner = (((node, behind),) + loops)[:depth]
        if nodes[node][2:] == (behind, behind) or (node, node, inner) in known:
            return True
        return any(
            block(if_true, behind, loops) and block(if_false, behind, loops)
            or if_false == behind and block(if_true, node, inner)
            for start, if_true, if_false in conditions if start == node)

    every = range(continuation_count(nodes))
    return {(node, behind, loops) for node, behind in all_loops(nodes) for loops in all_rows(nodes, depth)
            if any(block(after, behind, loops) and statement(node, after, loops) for after in every)}
