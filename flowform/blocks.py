"""The first blocks at positions, and the smallest programs."""

from flowform.errors import TooLarge
from flowform.ordering import block_key, statement_key
from flowform.programs import is_too_large
from flowform.solving import LeastSizes

MOST_SIZE = 40


def first_block(graph, depth, position):
    """Return the first block that realizes the position, or None if there is none."""
    return FirstBlocks(graph, depth).checked(position)


def smallest(graph, depth):
    """Return the smallest program of the flow graph for the jump depth, or None if there is none."""
    blocks = FirstBlocks(graph, depth)
    if blocks.net.calls == 0:
        return outcome_block(blocks.net.nodes[0][1])
    return blocks.checked((0, blocks.net.target, ()))


def outcome_block(outcome):
    """Return the first program that makes no call and has the outcome."""
    if outcome == "end":
        return ()
    if outcome == "hang":
        return (("for", None, ()),)
    return (("stop", outcome),)


class FirstBlocks:
    """The first blocks and the first statements for a flow graph and a jump depth, each of them built once."""

    def __init__(self, graph, depth):
        self.least = LeastSizes(graph, depth)
        self.net = self.least.net
        self.realizing_blocks = {}
        self.first_statements = {}

    def checked(self, position):
        """Return the first block that realizes the position, or None; raise TooLarge if it is too large."""
        if position not in self.least.work:
            return None
        # No part of a block is larger than the block, so nothing of a great size is built.
        if self.least.work[position] > MOST_SIZE or is_too_large(self.realizing(position)):
            raise TooLarge("the first block is too large")
        return self.realizing(position)

    def realizing(self, position):
        """Return the first block that realizes a position where there is one."""
        if position not in self.realizing_blocks:
            self.realizing_blocks[position] = min(self.realizing_choices(position), key=block_key)
        return self.realizing_blocks[position]

    def realizing_choices(self, position):
        """Return a list of blocks of the least size that realize a position, among them the first one."""
        node, continuation, loops = position
        found = []
        for behind, rest in enumerate(self.least.blocks[loops][continuation]):
            place = (node, behind, loops)
            if rest is not None and place in self.least.statements:
                if self.least.statements[place] + rest == self.least.work[position]:
                    found.append((self.statement(place), *self.behaving((behind, continuation, loops))))
        return found

    def behaving(self, place):
        """Return the first block that behaves like a triple where there is one."""
        node, continuation, loops = place
        if node == continuation:
            return ()
        # Of all blocks of size 1, the jumps come first.
        for word, goals in (("break", [loop[1] for loop in loops]), ("continue", [loop[0] for loop in loops])):
            if node in goals:
                return ((word, goals.index(node) + 1),)
        if node < self.net.calls:
            return self.realizing(place)
        return outcome_block(self.net.nodes[node][1])

    def statement(self, place):
        """Return the first statement from a call to a continuation, with loops around it, where there is one."""
        if place not in self.first_statements:
            self.first_statements[place] = min(self.statement_choices(place), key=statement_key)
        return self.first_statements[place]

    def statement_choices(self, place):
        """Return a list of statements of the least size, among them the first one."""
        least = self.least
        found = []
        for size, kind, if_true, if_false in least.equations.statement_options(place, least.blocks, least.work):
            if size == least.statements[place]:
                found.append(self.statement_of_kind(place, kind, if_true, if_false))
        return found

    def statement_of_kind(self, place, kind, if_true, if_false):
        """Return the first statement of a kind whose condition, if there is one, leads to these nodes."""
        node, behind, loops = place
        inside = self.least.equations.inside(node, behind, loops)
        if kind == "call":
            return ("call", self.net.nodes[node][1])
        if kind == "for":
            return ("for", None, self.realizing((node, node, inside)))
        condition = self.least.equations.conditions.condition((node, if_true, if_false))
        if kind == "while":
            return ("while", None, condition, self.behaving((if_true, node, inside)))
        return ("if", condition, self.behaving((if_true, behind, loops)), self.behaving((if_false, behind, loops)))
