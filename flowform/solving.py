"""The solution of the equations for the least sizes."""

from heapq import heappop, heappush

from flowform.equations import Equations


class LeastSizes:
    """All least sizes for a flow graph and a jump depth.

    work gives the sizes of work at positions, and statements those of the statements from a call to a
    continuation with loops around them; what is none has no entry there. blocks has the form of
    Equations.block_sizes.
    """

    def __init__(self, graph, depth):
        self.equations = Equations(graph, depth)
        self.net = self.equations.net
        self.work = {}
        self.statements = {}
        self.blocks = self.equations.block_sizes({})
        self.waiting = []
        self.entries = self.found_entries()
        self.solve()

    def start_size(self):
        """Return the least size of a block that behaves like the start, or None if there is none."""
        return self.blocks[()][self.net.target][0]

    def found_entries(self):
        """Return a dict of lists of all (behind, loops) with which a loop from a node has some loops inside.

        Its keys are pairs of the loops inside and the node.
        """
        found = {}
        for loops in self.equations.rows:
            for node, behind in self.net.pairs():
                inside = self.equations.inside(node, behind, loops)
                found.setdefault((inside, node), []).append((behind, loops))
        return found

    def solve(self):
        """Find all sizes, the smallest ones first.

        No size is less than those from which it results. So the smallest one that is waiting is final.
        """
        for loops in self.equations.rows:
            for node, behind in self.net.pairs():
                self.offer_statement((node, behind, loops))
        while self.waiting:
            size, kind, place = heappop(self.waiting)
            if kind == "statement" and place not in self.statements:
                self.statements[place] = size
                self.use_statement(place)
            elif kind == "work" and place not in self.work:
                self.work[place] = size
                self.use_work(place)

    def offer_statement(self, place):
        """Let the size wait that a statement has by what has been found so far."""
        if place not in self.statements:
            size = self.equations.statement_size(place, self.blocks, self.work)
            if size is not None:
                heappush(self.waiting, (size, "statement", place))

    def offer_work(self, statement, continuation):
        """Let the size wait of work that begins with a statement, if those of both parts have been found."""
        node, behind, loops = statement
        rest = self.blocks[loops][continuation][behind]
        if statement in self.statements and rest is not None and (node, continuation, loops) not in self.work:
            heappush(self.waiting, (self.statements[statement] + rest, "work", (node, continuation, loops)))

    def use_statement(self, place):
        """Offer all sizes that result from that of a statement."""
        for continuation in range(self.net.continuations):
            self.offer_work(place, continuation)

    def use_work(self, place):
        """Offer all sizes that result from that of work at a position."""
        node, continuation, loops = place
        sizes = self.blocks[loops][continuation]
        # A block that needs no call has its size already, which does not depend on work.
        is_block = sizes[node] is None
        if is_block:
            sizes[node] = self.work[place]
            for before in range(self.net.calls):
                self.offer_work((before, node, loops), continuation)
                self.offer_statement((before, continuation, loops))
        for behind, around in self.entries.get((loops, continuation), []):
            if node == continuation or is_block and (continuation, node, behind) in self.equations.conditions.ranks:
                self.offer_statement((continuation, behind, around))
