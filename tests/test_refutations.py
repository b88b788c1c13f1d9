import functools
import random
import unittest

from flowform.blocks import smallest
from flowform.errors import TooLarge, TooManyPositions
from flowform.graphs import minimal
from flowform.positions import position_count, positions
from flowform.refutations import check_refutation, refute
from flowform.sizes import least_size, least_sizes
from tests.helpers import flow, raised
from tests.searching import (
    BREAKS, END, FORTY_ONE, HANG, RETURN, ROWS, all_blocks, any_graph, call, call_count, endings, fits,
    plain_possible, row_graph, target_of,
)

# For these there is no program with the jump depth 1.
FIVE = (call("a", 1, 2), call("g", 3, 4), call("a", 5, 4), call("c", 1, 5), call("h", 0, 4), END)
SIX = (
    call("g", 1, 2), call("e", 3, 1), call("c", 4, 3), call("a", 6, 2), call("g", 6, 5), call("a", 4, 2), END)


@functools.cache
def graphs_without_programs():
    """Return pairs of a flow graph and a jump depth for which there is no program."""
    found = [(BREAKS, 0), (ROWS, 0), (FIVE, 0), (SIX, 0), (FIVE, 1), (SIX, 1)]
    for seed in range(150):
        graph = any_graph(seed, 5 + seed % 2, ("end", "return")[:seed // 2 % 3], "abcdefgh")
        if call_count(graph) > 0 and raised(position_count, graph, 0) is None and least_size(graph, 0) is None:
            found.append((graph, 0))
    return found


class RefuteTest(unittest.TestCase):
    """Points [180], [182] and [183]."""

    def test_examples(self):
        self.assertEqual(refute(BREAKS, 0), (
            (0, 0, ()), (0, 1, ()), (0, 2, ()), (0, 3, ()), (1, 0, ()), (1, 1, ()), (1, 2, ()), (1, 3, ()),
            (2, 0, ()), (2, 1, ()), (2, 2, ())))
        self.assertIsNone(refute(BREAKS, 1))
        self.assertEqual(len(refute(ROWS, 0)), 19)
        self.assertIsNone(refute(ROWS, 1))

    def test_graphs_without_a_call(self):
        for outcome in ("end", "hang", "return", "break x"):
            for depth in range(4):
                self.assertIsNone(refute((("outcome", outcome), call("a", 0, 0)), depth))

    def test_against_least_sizes(self):
        """The positions of a refutation are those without a least size; there is one if there is no program."""
        pairs = list(graphs_without_programs())
        for seed in range(200):
            pairs.append((any_graph(seed, 1 + seed % 4, ("end", "return", "hang")[:seed % 4], "abc"), seed // 4 % 3))
        refuted = 0
        for graph, depth in pairs:
            if raised(position_count, graph, depth) is not None or position_count(graph, depth) > 2500:
                continue
            found = refute(graph, depth)
            if least_size(graph, depth) is not None:
                self.assertIsNone(found)
            else:
                known = {place for place, _ in least_sizes(graph, depth)}
                self.assertEqual(found, tuple(place for place in positions(graph, depth) if place not in known))
                self.assertIs(check_refutation(graph, depth, found), True)
                refuted += 1
            if (least_size(graph, depth) or 0) <= 40:
                self.assertEqual(smallest(graph, depth) is None, found is not None)
        self.assertGreater(refuted, 15)

    def test_programs_that_are_too_large_are_programs(self):
        self.assertIs(raised(smallest, FORTY_ONE, 1).__class__, TooLarge)
        self.assertIsNone(refute(FORTY_ONE, 1))

    def test_no_small_block_realizes_a_position(self):
        for graph, depth in graphs_without_programs()[:12]:
            names = tuple(sorted({node[1] for node in graph if node[0] == "call"}))
            places = [place for place in refute(graph, depth) if len(place[2]) == 0]
            for size in range(1, 4):
                for block in all_blocks(names, ("return",), size, 0, depth):
                    for node in range(call_count(graph)):
                        ends = endings(graph, node, block)
                        if ends is not None and ends[1]:
                            for place in places:
                                self.assertFalse(place[0] == node and fits(graph, ends[0], *place[1:]))

    def test_more_depth(self):
        self.assertIsNotNone(refute(ROWS, 0))
        for depth in (1, 2):
            self.assertIsNone(refute(ROWS, depth))
        for graph in (FIVE, SIX):
            self.assertEqual([refute(graph, depth) is None for depth in range(2)], [False, False])
            self.assertIs(raised(refute, graph, 2).__class__, TooManyPositions)

    def test_not_minimal_graphs(self):
        graph = (call("a", 4, 5), call("z", 1, 1), call("b", 3, 0), call("c", 4, 4), END, call("b", 3, 0))
        self.assertEqual(refute(graph, 0), refute(minimal(graph), 0))
        self.assertEqual(len(refute(graph, 0)), 11)
        self.assertIs(check_refutation(graph, 0, refute(graph, 0)), True)

    def test_too_many_positions(self):
        graph = row_graph(10, ("end",))
        for depth in range(4):
            for error in (raised(refute, graph, depth), raised(check_refutation, graph, depth, ())):
                self.assertIs(error.__class__, TooManyPositions)
                self.assertEqual(error.count, 110 ** (depth + 1))


class CheckRefutationTest(unittest.TestCase):
    """Points [180], [181] and [183]."""

    def test_examples(self):
        triples = refute(BREAKS, 0)
        without = triples[:6] + triples[7:]
        self.assertIs(check_refutation(BREAKS, 0, triples), True)
        self.assertEqual(triples[6], (1, 2, ()))
        self.assertIs(check_refutation(BREAKS, 0, without), True)
        self.assertIs(check_refutation(BREAKS, 0, without[:-1]), False)
        self.assertIs(check_refutation(BREAKS, 0, ()), False)

    def test_any_order_and_triples_twice(self):
        chooser = random.Random(7)
        for graph, depth in graphs_without_programs()[:25]:
            triples = list(refute(graph, depth))
            self.assertIs(check_refutation(graph, depth, tuple(triples[::-1])), True)
            chooser.shuffle(triples)
            self.assertIs(check_refutation(graph, depth, tuple(triples)), True)
            self.assertIs(check_refutation(graph, depth, tuple(triples + triples[:5] + triples[:1])), True)

    def test_triples_that_are_no_positions(self):
        triples = refute(BREAKS, 0)
        for wrong in (
            (-1, 0, ()), (0, -1, ()), (3, 0, ()), (0, 4, ()), (3, 3, ()), (0, 0, ((0, 0),)), (0, 3, ((0, 3),) * 6),
            (10 ** 9, 0, ()), (0, 0, ((-1, 0),)), (2, 7, ()),
        ):
            self.assertIs(check_refutation(BREAKS, 0, triples + (wrong,)), False, wrong)
            self.assertIs(check_refutation(BREAKS, 0, (wrong,) + triples), False, wrong)
        triples = refute(FIVE, 1)
        self.assertIs(check_refutation(FIVE, 1, triples), True)
        self.assertIs(check_refutation(FIVE, 1, refute(FIVE, 0)), False)
        self.assertIs(check_refutation(FIVE, 0, triples), False)
        for loops in (((5, 0),), ((0, 6),), ((-1, 0),), ((0, -1),), ((0, 0), (0, 0)), ((0, 0),) * 6):
            self.assertIs(check_refutation(FIVE, 1, triples + ((0, 0, loops),)), False, loops)

    def test_left_out(self):
        """One that is needed, or one that is not: the rest is a refutation if no block is possible at any of it."""
        kinds = set()
        for graph, depth in graphs_without_programs()[:40]:
            if position_count(graph, depth) > 500:
                continue
            triples = refute(graph, depth)
            start = (0, target_of(graph), ())
            every = set(positions(graph, depth))
            for number in list(range(len(triples)))[::1 + len(triples) // 12]:
                rest = triples[:number] + triples[number + 1:]
                possible = plain_possible(graph, depth, every - set(rest))
                expected = start in rest and not possible & set(rest)
                self.assertIs(check_refutation(graph, depth, rest), expected)
                kinds.add(expected)
        self.assertEqual(kinds, {True, False})

    def test_the_start_is_missing(self):
        for graph, depth in graphs_without_programs()[:25]:
            triples = refute(graph, depth)
            start = (0, target_of(graph), ())
            self.assertIn(start, triples)
            self.assertIs(check_refutation(graph, depth, tuple(place for place in triples if place != start)), False)
            self.assertIs(check_refutation(graph, depth, ()), False)

    def test_the_start_has_no_loops_and_goes_on_at_the_target(self):
        graph, depth = BREAKS, 0
        others = [place for place in refute(graph, depth) if place != (0, 3, ())]
        self.assertIs(check_refutation(graph, depth, tuple(others)), False)

    def test_where_there_is_a_program(self):
        """No tuple at all is a refutation then."""
        chooser = random.Random(9)
        for graph, depth in ((BREAKS, 1), (ROWS, 1), (flow("while (a()) b();"), 0), ((call("a", 0, 0),), 2),
                             ((call("a", 0, 1), RETURN), 1), ((call("a", 1, 0), HANG), 0)):
            every = list(positions(graph, depth))
            self.assertIs(check_refutation(graph, depth, tuple(every)), False)
            realized = {place for place, _ in least_sizes(graph, depth)}
            self.assertIs(check_refutation(graph, depth, tuple(place for place in every if place not in realized)), False)
            for share in (0.1, 0.5, 0.9):
                some = tuple(place for place in every if chooser.random() < share)
                self.assertIs(check_refutation(graph, depth, some), False)
                self.assertIs(check_refutation(graph, depth, some + ((0, target_of(graph), ()),)), False)

    def test_every_refutation_consists_of_positions_of_refute(self):
        chooser = random.Random(10)
        found = {True: 0, False: 0}
        for graph, depth in graphs_without_programs()[:30]:
            triples = refute(graph, depth)
            every = list(positions(graph, depth))
            realized = [place for place in every if place not in triples]
            if realized:
                self.assertIs(check_refutation(graph, depth, triples + (chooser.choice(realized),)), False)
            for _ in range(10):
                some = tuple(place for place in triples if chooser.random() < 0.97)
                found[check_refutation(graph, depth, some)] += 1
        self.assertGreater(min(found.values()), 5)

    def test_graphs_without_a_call(self):
        for outcome in ("end", "hang", "return"):
            for depth in range(3):
                for triples in ((), ((0, 0, ()),), ((0, 1, ()),), ((0, 0, ()), (0, 1, ()))):
                    self.assertIs(check_refutation((("outcome", outcome),), depth, triples), False)

    def test_great_tuples(self):
        triples = refute(ROWS, 0)
        self.assertIs(check_refutation(ROWS, 0, triples * (12000 // len(triples))), True)
        triples = refute(SIX, 1)
        self.assertGreater(len(triples), 1000)
        self.assertIs(check_refutation(SIX, 1, triples * 3), True)
        self.assertIs(check_refutation(SIX, 1, triples * 3 + ((6, 0, ()),)), False)


if __name__ == "__main__":
    unittest.main()
