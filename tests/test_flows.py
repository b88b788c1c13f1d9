import unittest

from flowform.copying import without_try
from flowform.errors import (
    FlagTwice, OutsideOfLoop, TooManyConfigurations, TooManyFlags, TooManyNodes, TryInFinally, UnknownFlag,
)
from flowform.exploring import explored
from flowform.flows import flow_graph
from flowform.graphs import minimal, run_graph
from flowform.names import resolve
from flowform.reader import read_program
from flowform.running import run
from flowform.templates import fill
from tests.helpers import A, ResolvedMaker, flow, raised, rows_of_answers, with_names

END = ("outcome", "end")
FOUR_FLAGS = "let a = true; let b = true; let c = true; let d = true; "


class FlowGraphTest(unittest.TestCase):
    """Point [105]."""

    def test_examples(self):
        self.assertEqual(flow("outer: while (row()) { while (cell()) if (bad()) continue outer; good(); }"), (
            ("call", "row", 1, 4), ("call", "cell", 2, 3), ("call", "bad", 0, 1), ("call", "good", 0, 0), END))
        self.assertEqual(flow("for (;;) { if (a()) break; if (b()) { c(); break; } }"), (
            ("call", "a", 3, 1), ("call", "b", 2, 0), ("call", "c", 3, 3), END))

    def test_outcomes(self):
        for outcome in ("return", "return 5", "break x", "continue x"):
            self.assertEqual(flow(outcome + ";"), (("outcome", outcome),))
        for text, outcome in (("", "end"), ("let f = true; f = false;", "end"), ("for (;;) {}", "hang")):
            self.assertEqual(flow(text), (("outcome", outcome),))

    def test_flags(self):
        self.assertEqual(flow("let on = true; while (on) { if (!a()) on = false; }"), (
            ("call", "a", 0, 1), END))
        self.assertEqual(flow("let on = true; while (on || a()) { on = false; b(); }"), (
            ("call", "b", 1, 1), ("call", "a", 0, 2), END))
        toggle = "let odd = false; while (a()) { if (odd) { odd = false; b(); } else odd = true; }"
        self.assertEqual(flow(toggle), (
            ("call", "a", 1, 3), ("call", "a", 2, 3), ("call", "b", 0, 0), END))

    def test_flags_that_do_not_matter(self):
        self.assertEqual(flow("let f = false; while (a()) { if (b()) f = true; else f = false; }"),
                         flow("while (a()) b();"))

    def test_labels(self):
        self.assertEqual(flow("x: for (;;) { for (;;) { if (a()) break x; if (b()) continue x; break y; } }"), (
            ("call", "a", 2, 1), ("call", "b", 0, 3), END, ("outcome", "break y")))

    def test_try(self):
        self.assertEqual(flow("x: while (a()) { try { if (b()) return 1; } finally { c(); } }"), (
            ("call", "a", 1, 4), ("call", "b", 2, 3), ("call", "c", 5, 5), ("call", "c", 0, 0),
            END, ("outcome", "return 1")))
        self.assertEqual(flow("for (;;) { try { if (a()) continue; b(); } finally { c(); } }"), (
            ("call", "a", 1, 2), ("call", "c", 0, 0), ("call", "b", 1, 1)))

    def test_conditions_and_statements_of_the_same_behaviour(self):
        for first, second in (
            ("if (a() && b()) c();", "if (a()) { if (b()) c(); }"), ("a();", "if (a()) {}"),
            ("if (a()) {} else b();", "if (!a()) b();"), ("while (a()) b();", "for (;;) { if (!a()) break; b(); }"),
            ("for (;;) { a(); }", "while (a()) {} for (;;) a();"),
            ("return; a();", "return;"), ("if (a() || !a()) b(); else c();", "if (!(!a() && a())) b(); else c();"),
        ):
            self.assertEqual(flow(first), flow(second), (first, second))

    def test_it_is_minimal_and_has_the_behaviour_of_the_program(self):
        for seed in range(300):
            program = with_names(ResolvedMaker(seed, seed % 2).body(4), seed % 2)
            if raised(flow_graph, program) is None:
                graph = flow_graph(program)
                self.assertEqual(graph, minimal(graph))
                for row in rows_of_answers(3)[-8:]:
                    self.assertEqual(run_graph(graph, row), run(program, row), program)

    def test_the_same_without_try(self):
        for seed in range(200):
            resolved = ResolvedMaker(seed, 1).body(4)
            if raised(flow_graph, with_names(resolved, 1)) is None and raised(without_try, resolved) is None:
                changed = without_try(resolved)
                self.assertEqual(flow_graph(with_names(changed, 1)), flow_graph(with_names(resolved, 1)))


class ErrorsTest(unittest.TestCase):
    """Points [105] and [92]: the errors and their order."""

    def check(self, text, error, count=None):
        found = raised(flow, text)
        self.assertIs(found.__class__, error, text)
        if count is not None:
            self.assertEqual(found.count, count)

    def test_what_resolve_raises(self):
        self.check("f = true;", UnknownFlag)
        self.check("let f = true; let f = true;", FlagTwice)
        self.check("break;", OutsideOfLoop)
        self.check(FOUR_FLAGS + "let e = true;", TooManyFlags, 5)
        self.check("try {} finally { try {} finally {} }", TryInFinally)

    def test_too_many_configurations(self):
        self.check(FOUR_FLAGS + "a();" * 32, TooManyConfigurations, 512)
        self.check("try { return; } finally {} let f = true; " + "a();" * 126, TooManyConfigurations, 504)
        self.assertEqual(len(flow(FOUR_FLAGS + "a();" * 31)), 32)

    def test_too_many_nodes(self):
        self.assertEqual(len(flow("a();" * 39)), 40)
        self.check("a();" * 40, TooManyNodes, 41)
        self.check("a();" * 190, TooManyNodes, 191)
        self.assertEqual(len(flow("for (;;) {" + "a();" * 190 + "}")), 1)
        self.assertEqual(flow("for (;;) {" + "a();" * 41 + "}"), (("call", "a", 0, 0),))
        row = "".join(f"c{number}();" for number in range(39))
        self.assertEqual(len(flow(f"for (;;) {{ {row} z(); }}")), 40)
        self.check(f"for (;;) {{ {row} if (z()) break; }}", TooManyNodes, 41)

    def test_the_order_of_the_errors(self):
        calls = "a();" * 126
        self.check("f = true; let f = true; let g = true; " + calls, UnknownFlag)
        self.check(FOUR_FLAGS + "let e = true; try {} finally { try {} finally {} } " + calls, TooManyFlags, 5)
        self.check("let f = true; let g = true; try {} finally { try {} finally {} } " + calls, TryInFinally)
        self.check("let f = true; let g = true; " + calls, TooManyConfigurations, 504)
        self.check("let f = true; let g = true; " + "a();" * 125, TooManyNodes, 126)

    def test_the_weight_of_the_resolved_program_counts(self):
        program = (("block", (A,)),) * 41
        self.assertEqual(raised(flow_graph, program).count, 42)
        self.check("return; " + "a();" * 100 + FOUR_FLAGS, TooManyConfigurations, 1600)
        self.assertEqual(flow("return; " + "a();" * 100), (("outcome", "return"),))


class PiecesTest(unittest.TestCase):
    """Points [43], [92], [105], [200]: pieces of the same behaviour are exchanged."""

    PAIRS = (
        ("while (a()) b();", "for (;;) { if (!a()) break; b(); }"),
        ("while (a()) if (b()) break x;", "for (;;) { if (!a()) break; if (b()) break x; }"),
        ("if (a()) continue x; b();", "if (!a()) b(); else continue x;"),
        ("y: for (;;) { if (a()) break y; if (b()) return 3; }", "while (!a()) { if (b()) return 3; }"),
        ("let f = false; if (a()) f = true; b(); if (f) break x;", "if (a()) { b(); break x; } b();"),
        ("let g = true; while (g) { g = false; } a();", "{ a(); }"),
        ("try { if (a()) return 1; } finally { b(); }", "if (a()) { b(); return 1; } b();"),
        ("for (;;) {}", "let f = true; while (f) {}"),
        ("", "let f = true; if (!f) a();"),
        ("let x = true; x: while (x) { x = false; if (a()) break z; }", "if (a()) break z;"),
    )
    PLACES = (
        ("", ""), ("c(); ", " d();"), ("x: while (c()) { if (d()) ", " e(); }"), ("x: for (;;) ", ""),
        ("let f = true; x: while (f) { f = false; ", " if (c()) f = true; }"), ("if (c()) ", " else d();"),
        ("x: while (c()) { try ", " finally { d(); } } e();"), ("z: for (;;) { x: for (;;) { c(); ", " d(); } }"),
        ("let g = false; x: while (c()) { ", " if (g) d(); g = true; }"), ("z: while (c()) x: while (d()) ", ""),
        ("x: for (;;) { y: while (c()) ", " break; }"),
    )

    def test_exchange(self):
        for one, other in self.PAIRS:
            self.assertEqual(flow(one), flow(other), (one, other))
            for strings in self.PLACES:
                programs = [fill(strings, (read_program(text),)) for text in (one, other)]
                self.assertEqual(flow_graph(programs[0]), flow_graph(programs[1]), (strings, one, other))

    def test_exchange_as_blocks_at_depth(self):
        for one, other in self.PAIRS:
            first = ("block", read_program(one))
            second = ("block", read_program(other))
            for _ in range(5):
                first = ("for", "x", (("if", A, (first,), (("break", "x"),)),))
                second = ("for", "x", (("if", A, (second,), (("break", "x"),)),))
            self.assertEqual(flow_graph((first,)), flow_graph((second,)))

    def test_pieces_that_are_not_equivalent(self):
        self.assertNotEqual(flow("while (a()) b();"), flow("while (a()) { b(); b(); }"))
        changed = [fill(("x: while (c()) ", " d();"), (read_program(text),)) for text in ("break x;", "continue x;")]
        self.assertNotEqual(flow_graph(changed[0]), flow_graph(changed[1]))

    def test_configurations_of_the_resolved_program(self):
        program = read_program("let f = true; if (f) a(); else b();")
        self.assertEqual(flow_graph(program), minimal(explored(resolve(program))))


if __name__ == "__main__":
    unittest.main()
