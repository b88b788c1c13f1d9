import random
import types
import unittest

from flowform.blocks import first_block, smallest
from flowform.errors import TooManyPositions
from flowform.graphs import minimal
from flowform.positions import position_count, positions, possible
from flowform.refutations import check_refutation, refute
from flowform.restructuring import restructure
from flowform.sizes import check_sizes, least_size, least_sizes
from tests.helpers import raised
from tests.searching import (
    END, ONE, RETURN, ROWS, all_positions, any_graph, call, call_count, plain_possible, row_graph,
)

OUTCOMES = ("end", "hang", "return", "return 1", "break x", "continue x", "break y")

# The bounds: the number of calls, that of outcomes, the depth, and (k * t) ** (depth + 1).
WITHIN = ((9, 2, 0, 99), (7, 7, 0, 98), (9, 2, 1, 9801), (3, 4, 2, 9261), (4, 1, 2, 8000), (2, 3, 3, 10000), (2, 2, 3, 4096))
ABOVE = (
    (8, 5, 0, 104), (10, 1, 0, 110), (8, 5, 1, 10816), (9, 3, 1, 11664), (4, 2, 2, 13824), (8, 5, 2, 1124864),
    (3, 1, 3, 20736), (9, 2, 3, 96059601), (8, 5, 3, 116985856))


class PositionCountTest(unittest.TestCase):
    """Points [150] to [152]: the number of positions."""

    def test_examples(self):
        self.assertEqual(position_count(ROWS, 1), 420)
        self.assertEqual(position_count(ROWS, 0), 20)
        self.assertEqual(position_count(ROWS, 2), 8420)

    def test_outcome_end_and_nowhere(self):
        self.assertEqual([position_count(ONE, depth) for depth in range(4)], [6, 42, 258, 1554])
        # Without "end" nowhere is a continuation as well.
        graph = (call("a", 1, 2), call("b", 0, 0), RETURN)
        self.assertEqual([position_count(graph, depth) for depth in range(4)], [8, 72, 584, 4680])
        self.assertEqual(position_count((call("a", 0, 0),), 3), 2 + 4 + 8 + 16)
        self.assertEqual(position_count((call("a", 0, 1), END), 3), 2 + 4 + 8 + 16)
        self.assertEqual(position_count((call("a", 1, 2), END, RETURN), 1), 3 + 9)

    def test_graphs_without_a_call(self):
        for outcome in ("end", "hang", "return", "break x"):
            for depth in range(4):
                graph = (("outcome", outcome), call("a", 0, 1))
                self.assertEqual(position_count(graph, depth), 0)
                self.assertEqual(list(positions(graph, depth)), [])
                self.assertEqual(possible(graph, depth, ((0, 0, ()),)), ())

    def test_it_is_that_of_the_minimal_flow_graph(self):
        graph = (call("a", 4, 2), RETURN, call("b", 5, 3), END, END, call("a", 3, 2), call("z", 0, 1))
        self.assertEqual(position_count(graph, 1), 6 + 36)
        self.assertEqual(position_count(tuple(call("a", (n + 1) % 100, 0) for n in range(100)), 3), 30)

    def test_bounds(self):
        for calls, ends, depth, power in WITHIN:
            graph = row_graph(calls, OUTCOMES[:ends])
            pairs = calls * len(graph)
            self.assertEqual((call_count(graph), pairs ** (depth + 1)), (calls, power))
            self.assertEqual(position_count(graph, depth), sum(pairs ** (n + 1) for n in range(depth + 1)))


class TooManyTest(unittest.TestCase):
    """Point [152]: every function with a graph and a depth raises the error before anything else."""

    CALLS = (
        position_count, least_sizes, least_size, smallest, restructure, refute,
        lambda graph, depth: list(positions(graph, depth)), lambda graph, depth: possible(graph, depth, ()),
        lambda graph, depth: possible(graph, depth, ((-1, 7, ((0, 99),) * 6),)),
        lambda graph, depth: check_sizes(graph, depth, ()),
        lambda graph, depth: check_sizes(graph, depth, (((-1, 0, ()), 0), ((-1, 0, ()), 0))),
        lambda graph, depth: check_refutation(graph, depth, ()),
        lambda graph, depth: check_refutation(graph, depth, ((-1, 0, ()),)),
        lambda graph, depth: first_block(graph, depth, (0, 0, ())),
    )

    def test_above(self):
        for calls, ends, depth, power in ABOVE:
            graph = row_graph(calls, OUTCOMES[:ends])
            self.assertEqual((calls * len(graph)) ** (depth + 1), power)
            for function in self.CALLS:
                error = raised(function, graph, depth)
                self.assertIs(error.__class__, TooManyPositions)
                self.assertEqual(error.count, power)

    def test_nowhere_counts(self):
        for calls, depth, power in ((10, 0, 110), (9, 1, 11664), (4, 2, 13824), (2, 3, 20736)):
            graph = row_graph(calls, OUTCOMES[1:{10: 1, 9: 3, 4: 2, 2: 4}[calls]])
            for function in self.CALLS:
                error = raised(function, graph, depth)
                self.assertEqual((error.__class__, getattr(error, "count", None)), (TooManyPositions, power))

    def test_great_graphs(self):
        graph = tuple(call("a", number + 1, 99) for number in range(99)) + (END,)
        for depth in range(4):
            for function in self.CALLS:
                self.assertEqual(raised(function, graph, depth).count, 9900 ** (depth + 1))

    def test_within(self):
        for calls, ends, depth, _ in WITHIN[:3] + WITHIN[3:6:2]:
            graph = row_graph(calls, OUTCOMES[:ends])
            for function in self.CALLS:
                self.assertNotIsInstance(raised(function, graph, depth), TooManyPositions)

    def test_no_calls_and_no_error(self):
        for function in self.CALLS[:-1]:
            for outcome in ("end", "hang"):
                self.assertIsNone(raised(function, (("outcome", outcome),), 3))


class PositionsTest(unittest.TestCase):
    """Points [151] and [152]: the positions."""

    def test_order(self):
        graph = (call("a", 0, 1), END)
        self.assertEqual(list(positions(graph, 0)), [(0, 0, ()), (0, 1, ())])
        self.assertEqual(list(positions(graph, 1)), [
            (0, 0, ()), (0, 0, ((0, 0),)), (0, 0, ((0, 1),)), (0, 1, ()), (0, 1, ((0, 0),)), (0, 1, ((0, 1),))])
        self.assertEqual(list(positions(graph, 2))[:7], [
            (0, 0, ()), (0, 0, ((0, 0),)), (0, 0, ((0, 0), (0, 0))), (0, 0, ((0, 0), (0, 1))), (0, 0, ((0, 1),)),
            (0, 0, ((0, 1), (0, 0))), (0, 0, ((0, 1), (0, 1)))])
        self.assertIsInstance(positions(graph, 1), types.GeneratorType)

    def test_all_positions(self):
        for graph in (ONE, ROWS, (call("a", 1, 0), RETURN), (call("a", 0, 0),), (call("a", 1, 2), END, RETURN)):
            for depth in range(4):
                if raised(position_count, graph, depth) is None:
                    found = list(positions(graph, depth))
                    self.assertEqual(found, all_positions(graph, depth))
                    self.assertEqual(len(found), position_count(graph, depth))

    def test_at_the_bounds(self):
        for calls, ends, depth, _ in WITHIN:
            graph = row_graph(calls, OUTCOMES[:ends])
            found = list(positions(graph, depth))
            self.assertEqual(found, sorted(set(found)))
            self.assertEqual(len(found), position_count(graph, depth))
            self.assertEqual(max(len(loops) for _, _, loops in found), depth)
            last = (calls - 1, len(graph) - 1)
            self.assertEqual(found[-1], (*last, (last,) * depth))


class PossibleTest(unittest.TestCase):
    """Point [163]."""

    def test_example(self):
        self.assertEqual(possible(ROWS, 0, ()), ((3, 0, ()),))

    def check(self, graph, depth, known, expected):
        """Check whether a block is possible at each of these positions."""
        found = possible(graph, depth, known)
        self.assertEqual(set(found), plain_possible(graph, depth, known))
        for place, is_possible in expected.items():
            self.assertIs(place in found, is_possible, place)

    def test_a_statement_is_a_call(self):
        graph = (call("a", 1, 1), call("b", 2, 2), END)
        self.check(graph, 0, (), {(0, 1, ()): True, (1, 2, ()): True, (0, 2, ()): False, (0, 0, ()): False})
        self.check(graph, 0, ((1, 2, ()),), {(0, 2, ()): True, (0, 0, ()): False})

    def test_a_statement_is_an_if(self):
        graph = (call("a", 1, 2), call("b", 3, 3), call("c", 3, 3), END)
        self.check(graph, 0, (), {(0, 3, ()): False, (0, 1, ()): False, (0, 2, ()): False})
        self.check(graph, 0, ((1, 3, ()),), {(0, 3, ()): False})
        self.check(graph, 0, ((2, 3, ()),), {(0, 3, ()): False})
        self.check(graph, 0, ((1, 3, ()), (2, 3, ())), {(0, 3, ()): True})
        # One branch is empty.
        self.check(graph, 0, ((1, 2, ()),), {(0, 2, ()): True, (0, 1, ()): False})
        # The branch is a stop, a loop without a call, or a jump.
        for outcome, is_possible in (("return", True), ("hang", True), ("break x", True), ("end", False)):
            graph = minimal((call("a", 1, 2), ("outcome", outcome), call("b", 0, 3), END, RETURN))
            self.check(graph, 0, (), {(0, 1, ()): is_possible})

    def test_a_chain_as_the_condition(self):
        graph = (call("a", 1, 2), call("b", 3, 2), END, RETURN)
        self.check(graph, 0, (), {(0, 2, ()): True, (0, 3, ()): False, (0, 1, ()): False})

    def test_a_statement_is_a_while(self):
        self.check(ONE, 0, (), {(0, 2, ()): False, (1, 0, ()): True, (1, 2, ()): False, (0, 1, ()): False})
        self.check(ONE, 0, ((1, 0, ()),), {(0, 2, ()): True, (1, 2, ()): False})
        self.check(ONE, 0, ((0, 2, ()),), {(1, 2, ()): True})
        # The body is empty, or it consists of a jump to another loop.
        self.check((call("a", 0, 1), END), 0, (), {(0, 1, ()): True, (0, 0, ()): False})
        graph = (call("a", 1, 2), call("b", 0, 3), RETURN, END)
        inner = ((1, 3), (0, 3))
        self.check(graph, 1, (), {(1, 3, ((0, 3),)): True, (1, 3, ()): False, (1, 3, ((1, 3),)): False})
        self.check(graph, 1, ((0, 1, ((1, 3),)),), {(1, 3, ()): True, (1, 3, ((0, 3),)): True})
        self.check(graph, 2, (), {(1, 3, ((0, 3),)): True, (1, 3, ()): False, (1, 3, inner): True})
        self.check(graph, 2, ((0, 1, inner),), {(1, 3, ()): False})
        self.check(graph, 2, ((0, 1, ((1, 3),)),), {(1, 3, ()): True})

    def test_a_statement_is_a_for(self):
        graph = (call("a", 0, 0),)
        self.check(graph, 0, (), {(0, 0, ()): True, (0, 1, ()): False})
        self.check(graph, 0, ((0, 0, ()),), {(0, 1, ()): True})
        for depth in (1, 2):
            self.check(graph, depth, ((0, 0, ()),), {(0, 1, ()): False})
            self.check(graph, depth, ((0, 0, ((0, 1),)),), {(0, 1, ()): True})
            self.check(graph, depth, ((0, 0, ((0, 0),)),), {(0, 1, ()): False})

    def test_a_block_is_a_jump(self):
        graph = (call("a", 1, 1), call("b", 0, 2), END)
        self.check(graph, 1, (), {
            (0, 0, ()): False, (0, 0, ((1, 0),)): True, (0, 2, ((0, 1),)): True, (0, 2, ((1, 2),)): True,
            (0, 2, ((0, 0),)): False, (1, 1, ((0, 2),)): True, (1, 1, ((0, 1),)): False})

    def test_nowhere_is_no_goal_of_a_jump(self):
        graph = (call("a", 1, 1), RETURN)
        self.check(graph, 1, (), {(0, 2, ((0, 2),)): True, (0, 1, ()): True})
        graph = (call("a", 0, 0),)
        self.check(graph, 1, (), {(0, 1, ((0, 1),)): True, (0, 1, ()): False})

    def test_known_positions(self):
        for graph, depth in ((ROWS, 0), (ROWS, 1), (ONE, 2), ((call("a", 0, 1), END), 3)):
            every = tuple(positions(graph, depth))
            self.check(graph, depth, every, {})
            self.check(graph, depth, (), {})
            chooser = random.Random(3)
            for share in (0.2, 0.5, 0.8):
                known = [place for place in every if chooser.random() < share]
                found = possible(graph, depth, tuple(known))
                self.assertEqual(set(found), plain_possible(graph, depth, set(known)))
                self.assertEqual(found, tuple(sorted(set(found))))
                chooser.shuffle(known)
                self.assertEqual(possible(graph, depth, tuple(known + known[:9])), found)

    def test_triples_that_are_no_positions_have_no_effect(self):
        # With (0, 0, ()) known, for example, a block would be possible at (0, 1, ()).
        wrong = (
            (-1, 0, ()), (0, -1, ()), (2, 0, ()), (0, 3, ()), (0, 2, ((0, 3),)), (1, 1, ((-1, 0),)), (0, 0, ((2, 0),)),
            (0, 0, ((0, 0), (0, 0))), (0, 2, ((0, 1),) * 6), (10 ** 20, 0, ()), (2, 2, ()), (0, 0, ((0, -1),)))
        for graph in (ONE, (call("a", 0, 1), END)):
            self.assertEqual(possible(graph, 1, wrong), possible(graph, 1, ()))
            some = ((1, 1, ((1, 2),)), (0, 0, ()))
            self.assertEqual(possible(graph, 1, wrong + some + wrong), possible(graph, 1, some))
        self.assertEqual(possible(ONE, 0, ((0, 0, ((0, 2),)),)), possible(ONE, 0, ()))

    def test_many_graphs(self):
        chooser = random.Random(8)
        for seed in range(120):
            graph = any_graph(seed, 3, ("end", "return", "hang")[seed % 2:1 + seed % 3])
            depth = seed % 3
            if call_count(graph) > 0 and raised(position_count, graph, depth) is None and len(graph) * depth < 9:
                known = {place for place in positions(graph, depth) if chooser.random() < 0.3}
                self.assertEqual(set(possible(graph, depth, tuple(known))), plain_possible(graph, depth, known))

    def test_great_tuples(self):
        every = tuple(positions(ROWS, 2))
        known = every + ((9, 9, ((1, 1),) * 6),) * (12000 - len(every))
        self.assertEqual(len(known), 12000)
        self.assertEqual(possible(ROWS, 2, known), possible(ROWS, 2, every))
        self.assertGreater(len(possible(ROWS, 2, known)), 5000)


if __name__ == "__main__":
    unittest.main()
