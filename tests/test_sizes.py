import random
import unittest

from flowform.graphs import minimal
from flowform.positions import position_count, positions
from flowform.sizes import check_sizes, least_size, least_sizes
from tests.helpers import flow, raised
from tests.searching import (
    BREAKS, END, FORTY, FORTY_ONE, HANG, ONE, RETURN, ROWS, all_blocks, all_rows, any_graph, call, call_count,
    continuation_count, endings, fits, leads_from, plain_right_sides, plain_sizes, row_graph,
)


class LeastSizesTest(unittest.TestCase):
    """Points [160], [161] and [164]."""

    def test_examples(self):
        self.assertEqual(least_sizes(ROWS, 0), (((3, 0, ()), 1),))
        self.assertIsNone(least_size(ROWS, 0))
        self.assertEqual(least_size(ROWS, 1), 10)
        self.assertEqual(least_size(ROWS, 2), 8)
        self.assertEqual(least_sizes(ONE, 0), (((0, 2, ()), 3), ((1, 0, ()), 1), ((1, 2, ()), 4)))
        self.assertEqual([least_size(BREAKS, depth) for depth in (0, 1)], [None, 6])

    def test_programs(self):
        for text, depth, size in (
            ("a();", 0, 1), ("a(); b();", 0, 2), ("if (a()) b();", 0, 3), ("if (a()) b(); else c();", 0, 5),
            ("while (a()) {}", 0, 2), ("while (a() && b()) c();", 0, 4), ("for (;;) a();", 0, 2),
            ("for (;;) { a(); b(); }", 0, 3), ("if (a()) return;", 0, 3), ("a(); return 7;", 0, 2),
            ("for (;;) { a(); if (b()) break; }", 0, 4), ("for (;;) { if (a()) break; b(); }", 0, 3),
            ("for (;;) { if (a()) break; if (b()) { c(); break; } }", 0, None),
            ("for (;;) { if (a()) break; if (b()) { c(); break; } }", 1, 6),
            ("x: for (;;) { while (a()) if (b()) break x; c(); }", 1, 7),
            ("if (a()) b(); c();", 0, 4), ("if (a() || b()) { c(); d(); } else { c(); }", 0, 7),
            ("a(); for (;;) {}", 0, 2), ("if (a()) for (;;) {}", 0, 3), ("if (a()) break x; else continue x;", 0, 4),
        ):
            self.assertEqual(least_size(flow(text), depth), size, text)

    def test_graphs_without_a_call(self):
        for depth in range(4):
            for outcome, size in (("end", 0), ("hang", 1), ("return", 1), ("return 99", 1), ("continue x", 1)):
                self.assertEqual(least_size((("outcome", outcome),), depth), size)
                self.assertEqual(least_sizes((("outcome", outcome),), depth), ())
        self.assertEqual(least_size((END, call("a", 0, 0), END), 0), 0)

    def test_nowhere(self):
        graph = (call("a", 0, 0),)
        self.assertEqual(least_sizes(graph, 0), (((0, 0, ()), 1), ((0, 1, ()), 2)))
        self.assertEqual(least_size(graph, 0), 2)
        # Inside of a loop a jump is needed only behind a block that is completed.
        self.assertEqual(least_sizes(graph, 1), (
            ((0, 0, ()), 1), ((0, 0, ((0, 0),)), 1), ((0, 0, ((0, 1),)), 1),
            ((0, 1, ()), 2), ((0, 1, ((0, 0),)), 2), ((0, 1, ((0, 1),)), 2)))
        graph = (call("a", 1, 1), RETURN)
        self.assertEqual(least_sizes(graph, 0), (((0, 0, ()), 2), ((0, 1, ()), 1), ((0, 2, ()), 2)))

    def test_each_way(self):
        """Each line is a position that needs one of the rules of [160]."""
        for graph, depth, place, size in (
            # A call; a call and a jump to a loop or out of it.
            ((call("a", 1, 1), END), 0, (0, 1, ()), 1),
            ((call("a", 1, 1), call("b", 0, 2), END), 1, (0, 2, ((1, 0),)), 2),
            ((call("a", 1, 1), call("b", 0, 2), END), 1, (0, 2, ((0, 1),)), 2),
            # An if with one branch, with two, and with jumps as branches.
            ((call("a", 1, 2), call("b", 2, 2), END), 0, (0, 2, ()), 3),
            ((call("a", 1, 2), call("b", 3, 3), call("c", 3, 3), END), 0, (0, 3, ()), 5),
            ((call("a", 1, 2), RETURN, END), 0, (0, 2, ()), 3),
            ((call("a", 1, 2), RETURN, ("outcome", "break x")), 0, (0, 3, ()), 4),
            ((call("a", 1, 2), RETURN, HANG), 0, (0, 3, ()), 4),
            # The negation of the condition, which costs nothing.
            ((call("a", 1, 2), END, call("b", 1, 1)), 0, (0, 1, ()), None),
            # A while with an empty body, with a body, with a jump out of an outer loop.
            ((call("a", 0, 1), END), 0, (0, 1, ()), 2),
            (ONE, 0, (0, 2, ()), 3),
            # A for.
            ((call("a", 1, 1), call("b", 0, 0)), 0, (0, 2, ()), 3),
        ):
            found = dict(least_sizes(minimal(graph), depth))
            if size is not None:
                self.assertEqual(found.get(place), size, (graph, place))

    def test_against_plain_equations(self):
        found = 0
        for seed in range(250):
            graph = any_graph(seed, 1 + seed % 4, ("end", "return", "hang")[seed % 2:1 + seed % 3], "abc"[:1 + seed % 3])
            depth = seed // 3 % 4
            if call_count(graph) and raised(position_count, graph, depth) is None:
                if position_count(graph, depth) < 1500:
                    self.assertEqual(least_sizes(graph, depth), tuple(sorted(plain_sizes(graph, depth).items())))
                    found += 1
        self.assertGreater(found, 100)

    def test_against_all_blocks(self):
        """No block that is smaller realizes a position, and some block of the least size does."""
        chooser = random.Random(4)
        checked = 0
        for seed in range(60):
            names = "ab"[:1 + seed % 2]
            depth = seed % 3
            outcomes = ("end", "return")[seed // 3 % 2:1 + seed // 6 % 2]
            graph = any_graph(seed, 1 + seed % 3, outcomes, names)
            if call_count(graph) == 0 or raised(position_count, graph, depth) is not None:
                continue
            loops = chooser.choice(all_rows(graph, depth))
            most = 5 if len(names) == 1 and depth == 0 else 4 if depth < 2 else 3
            found = {}
            for size in range(1, most + 1):
                for block in all_blocks(names, ("return",), size, len(loops), depth):
                    for node in range(call_count(graph)):
                        self.note(found, graph, node, loops, block, size)
            expected = {place: size for place, size in least_sizes(graph, depth) if place[2] == loops and size <= most}
            self.assertEqual(found, expected, (graph, depth))
            checked += len(found)
        self.assertGreater(checked, 200)

    def note(self, found, graph, node, loops, block, size):
        ends = endings(graph, node, block)
        if ends is not None and ends[1]:
            for continuation in range(continuation_count(graph)):
                if fits(graph, ends[0], continuation, loops):
                    found.setdefault((node, continuation, loops), size)

    def test_more_depth_is_never_worse(self):
        for seed in range(60):
            graph = any_graph(seed, 3, ("end", "return")[:1 + seed % 2], "abc")
            sizes = [least_size(graph, depth) for depth in range(3) if raised(position_count, graph, depth) is None]
            for one, other in zip(sizes, sizes[1:]):
                self.assertTrue(one is None or other is not None and other <= one)

    def test_numbers_are_those_of_the_minimal_flow_graph(self):
        graph = (call("a", 4, 2), RETURN, call("b", 5, 3), END, END, call("a", 3, 2), call("z", 0, 1))
        for depth in range(3):
            self.assertEqual(least_sizes(graph, depth), least_sizes(minimal(graph), depth))
            self.assertEqual(least_size(graph, depth), least_size(minimal(graph), depth))

    def test_great_sizes(self):
        for graph, size in ((FORTY, 40), (FORTY_ONE, 41)):
            found = dict(least_sizes(graph, 1))
            self.assertEqual(least_size(graph, 1), size)
            self.assertEqual(found, plain_right_sides(graph, 1, leads_from(graph, 1000), found))
            self.assertGreater(max(found.values()), 42)

    def test_at_the_bounds(self):
        for calls, ends, depth in ((9, 2, 1), (3, 4, 2), (2, 3, 3)):
            graph = row_graph(calls, ("end", "return", "hang", "break x")[:ends])
            found = least_sizes(graph, depth)
            sizes = dict(found)
            self.assertEqual(list(sizes), [place for place in positions(graph, depth) if place in sizes])
            self.assertEqual(list(sizes.items()), list(found))
            self.assertTrue(check_sizes(graph, depth, found[::-1]))


class CheckSizesTest(unittest.TestCase):
    """Point [162]."""

    def check_table(self, graph, depth):
        right = least_sizes(graph, depth)
        chooser = random.Random(5)
        shuffled = list(right)
        chooser.shuffle(shuffled)
        for table in (right, right[::-1], tuple(shuffled)):
            self.assertIs(check_sizes(graph, depth, table), True)
        every = list(positions(graph, depth))
        missing = [place for place in every if place not in dict(right)]
        for number in chooser.sample(range(len(right)), min(12, len(right))):
            place, size = right[number]
            for other in (size + 1, size - 1, 0, -1, -size, 10 ** 30):
                wrong = right[:number] + ((place, other),) + right[number + 1:]
                self.assertIs(check_sizes(graph, depth, wrong), False, (place, other))
            self.assertIs(check_sizes(graph, depth, right[:number] + right[number + 1:]), False)
            self.assertIs(check_sizes(graph, depth, right + (right[number],)), False)
            self.assertIs(check_sizes(graph, depth, right + ((place, size + 1),)), False)
        for place in chooser.sample(missing, min(5, len(missing))):
            for size in (1, 2, 7, 0, -3):
                self.assertIs(check_sizes(graph, depth, right + ((place, size),)), False)

    def test_examples(self):
        self.assertIs(check_sizes(ROWS, 0, (((3, 0, ()), 1),)), True)
        self.assertIs(check_sizes(ROWS, 0, (((3, 0, ()), 2),)), False)
        self.assertIs(check_sizes(ROWS, 0, ()), False)

    def test_tables(self):
        for graph in (ROWS, ONE, BREAKS, (call("a", 0, 0),), (call("a", 1, 0), RETURN), (call("a", 1, 2), END, HANG)):
            for depth in (0, 1, 2)[:2 if graph == ROWS else 3]:
                self.check_table(graph, depth)

    def test_a_table_that_only_supports_itself(self):
        # Each of these two would be possible if the other one were, but not with these sizes.
        for size in range(1, 12):
            self.assertIs(check_sizes(BREAKS, 0, least_sizes(BREAKS, 0) + (((0, 3, ()), size),)), False)
            table = least_sizes(ROWS, 0) + (((0, 4, ()), size), ((1, 4, ()), size + 1), ((2, 4, ()), size + 2))
            self.assertIs(check_sizes(ROWS, 0, table), False)

    def test_all_wrong_in_the_same_way(self):
        right = least_sizes(ONE, 1)
        self.assertIs(check_sizes(ONE, 1, tuple((place, size + 1) for place, size in right)), False)
        self.assertIs(check_sizes(ONE, 1, tuple((place, 2 * size) for place, size in right)), False)
        self.assertIs(check_sizes(ONE, 1, tuple((place, 1) for place, _ in right)), False)

    def test_triples_that_are_no_positions(self):
        for graph, depth in ((ONE, 0), (ONE, 1), (ROWS, 0)):
            right = least_sizes(graph, depth)
            many = continuation_count(graph)
            calls = call_count(graph)
            for place in (
                (-1, 0, ()), (0, -1, ()), (calls, 0, ()), (0, many, ()), (calls, calls, ()), (10 ** 9, 0, ()),
                (0, 0, ((0, 0),) * (depth + 1)), (0, 0, ((0, 0),) * 6),
            ):
                for size in (1, 0, 5):
                    self.assertIs(check_sizes(graph, depth, right + ((place, size),)), False, place)
                    self.assertIs(check_sizes(graph, depth, ((place, size),) + right), False, place)
        for loops in (((0, 3),), ((2, 0),), ((-1, 0),), ((0, -1),), ((0, 0), (0, 0))):
            self.assertIs(check_sizes(ONE, 1, least_sizes(ONE, 1) + (((0, 0, loops), 1),)), False)

    def test_sizes_below_1_where_nothing_else_is_wrong(self):
        """With these sizes all equations hold, for example -3 = 1 + 1 + -3 + 1 + -3 for an if in the first one."""
        for graph, sizes in (
            ((call("a", 0, 0),), (1, -3)),
            ((call("a", 1, 0), RETURN), (-1, -4, -1)),
            ((call("a", 0, 1), RETURN), (-1, -4, -1)),
            ((call("b", 2, 1), call("a", 0, 2), END), (-1, -1, 0, -1, -1, 0)),
        ):
            table = tuple(zip(positions(graph, 0), sizes))
            conditions = leads_from(minimal(graph), 100)
            self.assertEqual(plain_right_sides(minimal(graph), 0, conditions, dict(table)), dict(table))
            self.assertIs(check_sizes(graph, 0, table), False)
        self.assertIs(check_sizes((call("a", 0, 0),), 0, (((0, 0, ()), 1), ((0, 1, ()), 2))), True)
        for one, other in ((0, 1), (0, 2), (-1, 0), (-1, 2), (1, 0), (0, 0)):
            self.assertIs(check_sizes((call("a", 0, 0),), 0, (((0, 0, ()), one), ((0, 1, ()), other))), False)

    def test_graphs_without_a_call(self):
        for outcome in ("end", "return", "hang"):
            self.assertIs(check_sizes((("outcome", outcome),), 2, ()), True)
            self.assertIs(check_sizes((("outcome", outcome),), 2, (((0, 0, ()), 1),)), False)
            self.assertIs(check_sizes((("outcome", outcome),), 0, (((0, 1, ()), 1),)), False)

    def test_great_tables(self):
        right = least_sizes(ROWS, 2)
        self.assertGreater(len(right), 5000)
        self.assertIs(check_sizes(ROWS, 2, right), True)
        self.assertIs(check_sizes(ROWS, 2, right[1:]), False)
        self.assertIs(check_sizes(ROWS, 2, right[:-1]), False)
        self.assertIs(check_sizes(ROWS, 2, right[:-1] + ((right[-1][0], right[-1][1] + 1),)), False)
        more = right + (right[0],) * (12000 - len(right))
        self.assertIs(check_sizes(ROWS, 2, more), False)
        every = tuple((place, 1) for place in positions(ROWS, 2))
        self.assertIs(check_sizes(ROWS, 2, every), False)

    def test_other_depth(self):
        self.assertIs(check_sizes(ONE, 0, least_sizes(ONE, 1)), False)
        self.assertIs(check_sizes(ONE, 1, least_sizes(ONE, 0)), False)

    def test_against_plain_equations(self):
        chooser = random.Random(6)
        for seed in range(60):
            graph = any_graph(seed, 2, ("end", "return")[:seed % 3], "ab")
            depth = seed % 2
            if call_count(graph) == 0:
                continue
            table = {place: chooser.randint(1, 4) for place in positions(graph, depth) if chooser.random() < 0.4}
            for _ in range(30):
                after = plain_right_sides(graph, depth, leads_from(graph, 100), table)
                self.assertIs(check_sizes(graph, depth, tuple(table.items())), after == table)
                if after == table:
                    break
                table = after


if __name__ == "__main__":
    unittest.main()
