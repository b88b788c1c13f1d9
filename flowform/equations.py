"""The equations that determine the least sizes of blocks."""

from flowform.conditions import FirstConditions
from flowform.continuations import few_positions


class Equations:
    """The equations for a flow graph and a jump depth.

    Sizes of work are given by dicts, which have no entries for the positions where work is none; everything
    else that is none is None. rows are all tuples of loops that positions have. choices gives for each call
    the list of what conditions lead to from there, as triples (if_true, if_false, least size).
    """

    def __init__(self, graph, depth):
        self.net = few_positions(graph, depth)
        self.depth = depth
        self.rows = self.net.rows_of_loops(depth)
        self.conditions = FirstConditions(self.net.nodes)
        self.choices = [[] for _ in range(self.net.calls)]
        for node, if_true, if_false in self.conditions.ranks:
            self.choices[node].append((if_true, if_false, self.conditions.size_of((node, if_true, if_false))))

    def inside(self, node, behind, loops):
        """Return the loops inside of a loop that begins at the node and goes on behind it."""
        return ((node, behind), *loops)[:self.depth]

    def block_size(self, place, work):
        """Return the least size of a block that behaves like the triple; work is that of a block which calls."""
        node, continuation, loops = place
        if node == continuation:
            return 0
        if not self.net.is_node(node):
            return None
        if any([node in loop for loop in loops]):
            return 1
        if node < self.net.calls:
            return work
        return None if node == self.net.target else 1

    def block_sizes(self, sizes):
        """Return the sizes of all blocks: for all loops and each continuation a list of those from each place."""
        places = range(self.net.continuations)
        found = {}
        for loops in self.rows:
            found[loops] = [[
                self.block_size((node, behind, loops), sizes.get((node, behind, loops))) for node in places
            ] for behind in places]
        return found

    def statement_options(self, place, blocks, sizes):
        """Return a list of the statements from a call to a continuation with loops around it.

        Each is given as (size, kind, if_true, if_false), with the nodes to which its condition leads. blocks
        are the sizes of blocks, in the form of block_sizes, and sizes those of work.
        """
        node, behind, loops = place
        # Everything else is larger.
        if self.net.nodes[node][2:] == (behind, behind):
            return [(1, "call", behind, behind)]
        inside = self.inside(node, behind, loops)
        branches = blocks[loops][behind]
        bodies = blocks[inside][node]
        found = []
        for if_true, if_false, size in self.choices[node]:
            first, second = branches[if_true], branches[if_false]
            if first is not None and second is not None:
                found.append((1 + size + first + _second_branch_size(second), "if", if_true, if_false))
            if if_false == behind and bodies[if_true] is not None:
                found.append((1 + size + bodies[if_true], "while", if_true, if_false))
        if (node, node, inside) in sizes:
            found.append((1 + sizes[node, node, inside], "for", node, behind))
        return found

    def statement_size(self, place, blocks, sizes):
        """Return the least size of a statement from a call to a continuation with loops around it."""
        return min([option[0] for option in self.statement_options(place, blocks, sizes)], default=None)

    def right_sides(self, sizes):
        """Return the sizes of work by the right sides of the equations, if these sizes stand there, none below 1."""
        blocks = self.block_sizes(sizes)
        places = range(self.net.continuations)
        found = {}
        for loops in self.rows:
            for node in range(self.net.calls):
                statements = [self.statement_size((node, behind, loops), blocks, sizes) for behind in places]
                for continuation in places:
                    size = _least_sum(statements, blocks[loops][continuation])
                    if size is not None:
                        found[node, continuation, loops] = size
        return found


def _second_branch_size(size):
    return 0 if size == 0 else 1 + size


def _least_sum(first, second):
    """Return the least sum of two sizes at the same place of the lists, or None if there is none."""
    return min([one + two for one, two in zip(first, second) if one is not None and two is not None], default=None)
