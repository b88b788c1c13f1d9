"""Conditions that lead from a node of a flow graph to two others, and the first ones in their order."""

from heapq import heapify, heappop, heappush

from flowform.continuations import few_pairs
from flowform.errors import TooLarge
from flowform.graphs import minimal
from flowform.programs import MOST_PARTS, is_too_large_condition

# The kinds of conditions in their order.
KINDS = ("call", "not", "and", "or")


def leads(graph, condition, node):
    """Return the pair of nodes to which the condition leads from the node, or None if there is none."""
    return _led(minimal(graph), condition, node)


def _led(nodes, condition, node):
    kind, inner = condition
    if kind == "call":
        return nodes[node][2:] if nodes[node][:2] == condition else None
    if kind == "not":
        pair = _led(nodes, inner, node)
        return None if pair is None else (pair[1], pair[0])
    # Where a part of an "and" is true, and where a part of an "or" is false, the next part is evaluated.
    onward = 0 if kind == "and" else 1
    outward = None
    for part in inner:
        pair = _led(nodes, part, node)
        if pair is None or outward not in (None, pair[1 - onward]):
            return None
        node = pair[onward]
        outward = pair[1 - onward]
    return (node, outward) if kind == "and" else (outward, node)


def earlier_condition(first, second):
    """Return True if the first condition comes before the second one."""
    return condition_key(first) < condition_key(second)


def condition_key(condition):
    """Return by what conditions are ordered that negate only calls: a tuple that begins with the size."""
    kind, inner = condition
    if kind == "call":
        return (1, 0, inner)
    if kind == "not":
        return (1, 1, inner[1])
    keys = [condition_key(part) for part in inner]
    key = keys[-1]
    for part in reversed(keys[:-1]):
        key = (part[0] + key[0], KINDS.index(kind), part, key)
    return key


def first_conditions(graph):
    """Yield (node, if_true, if_false, size) for all that a condition leads to, in ascending order."""
    found = FirstConditions(few_pairs(graph).nodes)
    for triple in sorted(list(found.ranks)):
        yield (*triple, found.size_of(triple))


def first_condition(graph, node, if_true, if_false):
    """Return the first condition that leads from the node to the two others, or None if there is none."""
    found = FirstConditions(few_pairs(graph).nodes)
    triple = (node, if_true, if_false)
    if triple not in found.ranks:
        return None
    # A condition has at least as many parts as calls. Those of a great size must not even be built.
    if found.size_of(triple) > MOST_PARTS or is_too_large_condition(found.condition(triple)):
        raise TooLarge("the first condition is too large")
    return found.condition(triple)


class FirstConditions:
    """The first conditions between the nodes of a minimal flow graph.

    Conditions are numbered by their ranks in the order of conditions; ranks gives the one of the first
    condition from q to a and b for each triple (q, a, b) that has one. The form of a condition is (size,
    kind, name, 0) for a call and its negation, and (size, kind, rank of the first part, rank of the rest)
    for others, with the number of the kind. Forms are ordered as their conditions are.
    """

    def __init__(self, nodes):
        self.ranks = {}
        self.forms = []
        self.nodes = nodes
        self.search()

    def search(self):
        """Find the first conditions in their order.

        A chain is larger than its parts. So when the first form of a size is taken, all forms of this size
        have been put there, and equal forms are taken one behind another.
        """
        waiting = []
        for number, node in enumerate(self.nodes):
            if node[0] == "call":
                waiting.append(((1, 0, node[1], 0), (number, node[2], node[3])))
                waiting.append(((1, 1, node[1], 0), (number, node[3], node[2])))
        heapify(waiting)
        while waiting:
            form, triple = heappop(waiting)
            if triple not in self.ranks:
                if not self.forms or self.forms[-1] != form:
                    self.forms.append(form)
                self.ranks[triple] = len(self.forms) - 1
                for chain in self.chains_with(triple):
                    heappush(waiting, chain)

    def chains_with(self, triple):
        """Return a list of the chains, with their triples, that the condition of the triple makes with others."""
        start, if_true, if_false = triple
        chains = []
        for other in range(len(self.nodes)):
            for kind, first, rest in (
                ("and", triple, (if_true, other, if_false)), ("and", (other, start, if_false), triple),
                ("or", triple, (if_false, if_true, other)), ("or", (other, if_true, start), triple),
            ):
                if first in self.ranks and rest in self.ranks:
                    form = self.form_of_chain(KINDS.index(kind), self.ranks[first], self.ranks[rest])
                    goal = (first[0], rest[1], rest[2])
                    # A chain of the same kind as the first part has been found with its own first part, too.
                    if goal not in self.ranks and self.forms[self.ranks[first]][1] != form[1]:
                        chains.append((form, goal))
        return chains

    def form_of_chain(self, kind, first, rest):
        """Return the form of a chain of this kind, from the ranks of its first part and its rest."""
        return (self.forms[first][0] + self.forms[rest][0], kind, first, rest)

    def size_of(self, triple):
        """Return the size of the first condition of a triple."""
        return self.forms[self.ranks[triple]][0]

    def condition(self, triple):
        """Return the first condition of a triple, which is not too large to be built."""
        return self.built(self.ranks[triple])

    def built(self, rank):
        """Return the condition with this rank."""
        _, kind, first, rest = self.forms[rank]
        if KINDS[kind] == "call":
            return ("call", first)
        if KINDS[kind] == "not":
            return ("not", ("call", first))
        parts = [self.built(first)]
        while self.forms[rest][1] == kind:
            _, _, first, rest = self.forms[rest]
            parts.append(self.built(first))
        parts.append(self.built(rest))
        return (KINDS[kind], tuple(parts))
