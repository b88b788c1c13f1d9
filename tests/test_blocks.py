import random
import unittest
import unittest.mock

from flowform.blocks import first_block, smallest
from flowform.errors import TooLarge, TooManyPositions
from flowform.exploring import explored
from flowform.graphs import minimal
from flowform.names import jump_depth
from flowform.positions import position_count, positions
from flowform.programs import depths, places, size
from flowform.restructuring import restructure
from flowform.sizes import least_size, least_sizes
from tests.helpers import A, B, BREAK, C, CONTINUE, STOP, ResolvedMaker, during, flow, loop, raised, read, when
from tests.searching import (
    BREAKS, END, FORTY, FORTY_ONE, HANG, RETURN, ROWS, all_blocks, all_rows, any_graph, call, call_count,
    compare_blocks, continuation_count, endings, fits, has_other_negations, plain_behaves, row_graph, target_of,
)


class FirstBlockTest(unittest.TestCase):
    """Points [171] and [172]."""

    def check(self, graph, depth, position, *block):
        self.assertEqual(first_block(graph, depth, position), block)
        self.assertTrue(plain_behaves(graph, position, block))

    def test_calls(self):
        graph = (call("a", 1, 1), call("b", 2, 2), call("c", 0, 3), END)
        self.check(graph, 0, (0, 1, ()), A)
        self.check(graph, 0, (0, 2, ()), A, B)
        self.check((call("a", 0, 0),), 0, (0, 0, ()), A)
        self.check((call("a", 0, 0),), 0, (0, 1, ()), loop(A))

    def test_jumps_come_first(self):
        graph = (call("a", 1, 1), call("b", 0, 2), END)
        self.check(graph, 1, (0, 2, ((0, 1),)), A, BREAK)
        self.check(graph, 1, (0, 2, ((1, 0),)), A, CONTINUE)
        # To the innermost one of several loops, and break before continue, also if it leads further out.
        self.check(graph, 2, (0, 2, ((0, 1), (0, 1))), A, BREAK)
        self.check(graph, 2, (0, 2, ((1, 0), (1, 0))), A, CONTINUE)
        self.check(graph, 2, (0, 2, ((1, 0), (0, 1))), A, ("break", 2))
        self.check(graph, 2, (0, 2, ((0, 2), (1, 2))), A, ("continue", 2))
        self.check(graph, 3, (0, 2, ((0, 2), (0, 0), (0, 1))), A, ("break", 3))
        self.check(graph, 3, (0, 2, ((0, 2), (1, 0), (1, 0))), A, ("continue", 2))
        # A jump is taken in place of a call, a stop and a loop without a call.
        self.check(graph, 1, (0, 0, ((1, 0),)), A, CONTINUE)
        for outcome in ("return", "hang"):
            graph = (call("a", 1, 1), ("outcome", outcome))
            self.check(graph, 1, (0, 2, ((0, 1),)), A, BREAK)

    def test_stops_and_loops_without_a_call(self):
        for outcome in ("return", "return 5", "break x", "continue x"):
            graph = (call("a", 1, 1), ("outcome", outcome))
            self.check(graph, 0, (0, 2, ()), A, ("stop", outcome))
            self.check(graph, 0, (0, 1, ()), A)
            self.check(graph, 0, (0, 0, ()), A, ("stop", outcome))
        self.check((call("a", 1, 1), HANG), 0, (0, 2, ()), A, loop())
        self.check((call("a", 1, 2), RETURN, HANG), 0, (0, 3, ()), when(A, (STOP,)), loop())
        self.check((call("a", 1, 2), HANG, RETURN), 0, (0, 3, ()), when(A, (loop(),)), STOP)

    def test_ifs(self):
        graph = (call("a", 1, 2), call("b", 3, 3), call("c", 3, 3), END)
        self.check(graph, 0, (0, 3, ()), when(A, (B,), (C,)))
        self.check((call("a", 1, 2), call("b", 2, 2), END), 0, (0, 2, ()), when(A, (B,)))
        self.check((call("a", 2, 1), call("b", 2, 2), END), 0, (0, 2, ()), when(("not", A), (B,)))
        # A branch that ends with a stop needs no second branch.
        graph = (call("a", 1, 2), call("b", 3, 3), call("b", 4, 4), END, RETURN)
        self.check(graph, 0, (0, 3, ()), when(("not", A), (B, STOP)), B)
        graph = (call("a", 1, 2), call("b", 2, 2), call("c", 3, 3), END)
        self.check(graph, 0, (0, 3, ()), when(A, (B,)), C)

    def test_the_condition_comes_before_the_branches(self):
        graph = (call("a", 1, 2), call("c", 3, 3), call("b", 3, 3), END)
        self.check(graph, 0, (0, 3, ()), when(A, (C,), (B,)))

    def test_whiles_and_fors(self):
        self.check((call("a", 1, 2), call("b", 0, 0), END), 0, (0, 2, ()), during(A, B))
        self.check((call("a", 1, 2), call("b", 0, 0), END), 0, (1, 2, ()), B, during(A, B))
        self.check((call("a", 1, 0), END), 0, (0, 1, ()), during(("not", A)))
        self.check((call("a", 1, 1), call("b", 0, 0)), 0, (0, 2, ()), loop(A, B))
        self.check((call("a", 1, 1), call("b", 0, 0)), 0, (1, 2, ()), loop(B, A))

    def test_fewer_statements_come_first(self):
        """The example of [170]: the size is the same, but the first statement of the body is smaller."""
        graph = flow("for (;;) { while (!a()) c(); if (b()) break; }")
        self.check(graph, 1, (0, target_of(graph), ()), loop(during(("not", A), C), when(B, (BREAK,))))
        self.assertEqual(first_block(graph, 2, (0, target_of(graph), ())), first_block(graph, 1, (0, target_of(graph), ())))

    def test_none(self):
        self.assertIsNone(first_block(BREAKS, 0, (0, 3, ())))
        self.assertIsNone(first_block(ROWS, 0, (0, 4, ())))
        for graph, depth in ((ROWS, 0), (ROWS, 1), (BREAKS, 1), ((call("a", 1, 0), RETURN), 2)):
            found = dict(least_sizes(graph, depth))
            for place in list(positions(graph, depth))[::7]:
                self.assertEqual(first_block(graph, depth, place) is None, place not in found)

    def test_against_all_blocks(self):
        """It is the first one of all blocks of its size that realize the position; smaller ones don't."""
        chooser = random.Random(14)
        checked = 0
        for seed in range(42):
            names = "ab"[:1 + seed % 2]
            depth = seed % 3
            graph = any_graph(seed + 500, 1 + seed % 3, ("end", "return")[seed // 3 % 2:1 + seed // 6 % 2], names)
            if call_count(graph) == 0 or raised(position_count, graph, depth) is not None:
                continue
            loops = chooser.choice(all_rows(graph, depth))
            most = 5 if len(names) == 1 and depth == 0 else 4 if depth < 2 else 3
            first = {}
            for many in range(1, most + 1):
                for block in all_blocks(names, ("return",), many, len(loops), depth):
                    for node in range(call_count(graph)):
                        self.note(first, graph, node, loops, block)
            for node in range(call_count(graph)):
                for continuation in range(continuation_count(graph)):
                    found = first_block(graph, depth, (node, continuation, loops))
                    if (node, continuation) in first:
                        self.assertEqual(found, first[node, continuation], (graph, depth))
                        checked += 1
                    else:
                        self.assertTrue(found is None or size(found) > most, (graph, depth))
        self.assertGreater(checked, 100)

    def note(self, first, graph, node, loops, block):
        """Note the block if it realizes a position before all blocks that have been noted."""
        ends = endings(graph, node, block)
        if ends is not None and ends[1]:
            for continuation in range(continuation_count(graph)):
                if fits(graph, ends[0], continuation, loops):
                    best = first.get((node, continuation))
                    if best is None or compare_blocks(block, best) < 0:
                        first[node, continuation] = block

    def test_it_realizes_its_position(self):
        for seed in range(24):
            chooser = random.Random(seed)
            graph = any_graph(seed, 4, ("end", "return", "hang")[:seed % 4], "abc")
            depth = seed % 3
            if call_count(graph) == 0 or raised(position_count, graph, depth) is not None:
                continue
            found = least_sizes(graph, depth)
            for place, least in chooser.sample(found, min(8, len(found))):
                if least <= 40:
                    block = first_block(graph, depth, place)
                    self.assertEqual(size(block), least)
                    self.assertTrue(plain_behaves(graph, place, block))
                    self.assertTrue(endings(graph, place[0], block)[1])
                    self.assertLessEqual(jump_depth(block), depth)
                    self.assertFalse(has_other_negations(block))

    def test_too_large(self):
        for graph in (FORTY, FORTY_ONE):
            found = {}
            for place, least in least_sizes(graph, 1):
                found.setdefault(min(max(least, 38), 43), []).append(place)
            self.assertLessEqual({40, 41}, set(found))
            for least, places in found.items():
                for place in places[:2]:
                    error = raised(first_block, graph, 1, place)
                    if least > 40:
                        self.assertIs(error.__class__, TooLarge)
                    else:
                        self.assertIsNone(error)
                        self.assertTrue(plain_behaves(graph, place, first_block(graph, 1, place)))

    def test_too_large_by_places_and_depths(self):
        """No block of a size up to 40 has more than 200 places, so that the bounds are lowered here."""
        graph = flow("x: while (a() && b()) { if (c()) break x; }")
        place = (0, target_of(graph), ())
        block = first_block(graph, 1, place)
        self.assertEqual((places(block), depths(block)), (6, (0, 2)))
        self.assertEqual(block, (during(("and", (A, B, ("not", C)))),))
        for bound, least in (("MOST_PLACES", 6), ("DEEPEST_PART", 2), ("DEEPEST_STATEMENT", 0)):
            with unittest.mock.patch("flowform.programs." + bound, least):
                self.assertEqual(first_block(graph, 1, place), block)
                self.assertEqual(smallest(graph, 1), block)
            with unittest.mock.patch("flowform.programs." + bound, least - 1):
                self.assertIs(raised(first_block, graph, 1, place).__class__, TooLarge)
                self.assertIs(raised(smallest, graph, 1).__class__, TooLarge)
                self.assertIs(raised(restructure, graph, 1).__class__, TooLarge)


class SmallestTest(unittest.TestCase):
    """Point [173]."""

    def test_examples(self):
        self.assertEqual(smallest(flow("while (a()) b();"), 0), (during(A, B),))
        self.assertIsNone(smallest(BREAKS, 0))
        self.assertEqual(smallest(BREAKS, 1), (during(("not", A), when(B, (C, BREAK))),))
        self.assertEqual(smallest(ROWS, 1), (during(("call", "row"), loop(
            when(("not", ("call", "cell")), (("call", "good"), BREAK)), when(("call", "bad"), (BREAK,)))),))
        self.assertEqual(smallest(ROWS, 2), (during(("call", "row"), during(
            ("call", "cell"), when(("call", "bad"), (("continue", 2),))), ("call", "good")),))

    def test_graphs_without_a_call(self):
        for depth in range(4):
            self.assertEqual(smallest((END,), depth), ())
            self.assertEqual(smallest((HANG, call("a", 0, 0)), depth), (loop(),))
            for outcome in ("return", "return 0", "return 99", "break end", "continue x"):
                self.assertEqual(smallest((("outcome", outcome), END), depth), (("stop", outcome),))

    def test_same_behaviour(self):
        found = 0
        for seed in range(60):
            graph = any_graph(seed, 4, ("end", "return", "hang")[:seed % 4], "abc")
            depth = seed % 3
            if raised(position_count, graph, depth) is None and (least_size(graph, depth) or 41) <= 40:
                program = smallest(graph, depth)
                self.assertEqual(minimal(explored(program)), graph)
                self.assertEqual(size(program), least_size(graph, depth))
                self.assertLessEqual(jump_depth(program), depth)
                self.assertFalse(has_other_negations(program))
                found += 1
        self.assertGreater(found, 20)

    def test_it_is_the_first_block_at_the_start(self):
        for graph in (ROWS, BREAKS, (call("a", 1, 0), RETURN), (call("a", 0, 0),), FORTY):
            for depth in (0, 1):
                if least_size(graph, depth) is not None:
                    self.assertEqual(smallest(graph, depth), first_block(graph, depth, (0, target_of(graph), ())))
                else:
                    self.assertIsNone(smallest(graph, depth))

    def test_against_all_programs(self):
        for seed in range(40):
            graph = any_graph(seed, 1 + seed % 2, ("end", "return")[seed % 2:], "a")
            for depth in (0, 1):
                best = None
                for many in range(5):
                    for block in all_blocks("a", ("return",), many, 0, depth):
                        ends = endings(graph, 0, block)
                        if ends is not None and fits(graph, ends[0], target_of(graph), ()):
                            best = block if best is None or compare_blocks(block, best) < 0 else best
                    if best is not None:
                        break
                program = smallest(graph, depth)
                self.assertTrue(program == best or best is None and (program is None or size(program) > 4))

    def test_no_equivalent_program_is_smaller(self):
        """Also if more than calls are negated in it."""
        for seed in range(200):
            resolved = ResolvedMaker(seed, 0, False).body(3)
            graph = minimal(explored(resolved))
            depth = jump_depth(resolved)
            if depth < 4 and raised(position_count, graph, depth) is None:
                least = least_size(graph, depth)
                self.assertLessEqual(least, size(resolved))
                if least <= 40:
                    self.assertTrue(compare_blocks(smallest(graph, depth), resolved) <= 0 or has_other_negations(resolved))

    def test_more_depth_never_gives_a_later_program(self):
        for seed in range(60):
            graph = any_graph(seed, 3, ("end", "return")[:1 + seed % 2], "abc")
            programs = [smallest(graph, depth) for depth in range(3) if raised(smallest, graph, depth) is None]
            for one, other in zip(programs, programs[1:]):
                self.assertTrue(one is None or compare_blocks(other, one) <= 0)

    def test_numbers_of_jumps(self):
        graph = flow("x: for (;;) { for (;;) { if (a()) break x; if (b()) break; } c(); }")
        self.assertEqual(smallest(graph, 2), smallest(graph, 1))
        text = "x: while (a()) { y: while (b()) { while (c()) { if (d()) continue x; if (e()) continue y; f(); } g(); } h(); }"
        program = read(text)
        self.assertEqual(jump_depth(program), 3)
        self.assertIs(raised(smallest, flow(text), 3).__class__, TooManyPositions)

    def test_too_large(self):
        self.assertEqual(size(smallest(FORTY, 1)), 40)
        self.assertEqual(least_size(FORTY_ONE, 1), 41)
        self.assertIs(raised(smallest, FORTY_ONE, 1).__class__, TooLarge)

    def test_too_many_positions_comes_first(self):
        graph = row_graph(10, ("end",))
        for depth in range(4):
            self.assertIs(raised(smallest, graph, depth).__class__, TooManyPositions)
        self.assertEqual(raised(smallest, FORTY_ONE, 2).count, 56 ** 3)
        self.assertEqual(raised(first_block, FORTY_ONE, 3, (0, 7, ())).count, 56 ** 4)

    def test_not_minimal_graphs(self):
        graph = (call("a", 4, 2), RETURN, call("b", 5, 3), END, END, call("a", 3, 2), call("z", 0, 1))
        self.assertEqual(smallest(graph, 1), smallest(minimal(graph), 1))
        self.assertEqual(first_block(graph, 1, (1, 2, ((0, 2),))), first_block(minimal(graph), 1, (1, 2, ((0, 2),))))

    def test_programs_without_jumps(self):
        for text in ("a();", "if (a()) b(); else c();", "while (a() && b()) { c(); }", "for (;;) { a(); b(); }",
                     "if (a() || b()) return;", "a(); for (;;) {}", "while (a()) if (b()) c(); return 4;"):
            for depth in (0, 1):
                self.assertEqual(smallest(flow(text), depth), read(text))


if __name__ == "__main__":
    unittest.main()
