"""The document's examples, and what holds for the whole program."""

import pathlib
import re
import unittest

from flowform import errors
from flowform.assembling import assembled
from flowform.behaving import behaves
from flowform.blocks import smallest
from flowform.coding import code_graph
from flowform.comparing import check_matching, compare, matching
from flowform.copying import without_try
from flowform.flows import flow_graph
from flowform.graphs import minimal
from flowform.names import jump_depth, resolve
from flowform.printer import show_program
from flowform.programs import size
from flowform.reader import read_program
from flowform.refutations import check_refutation, refute
from flowform.restructuring import restructure, structured, with_flags
from flowform.running import run
from flowform.sessions import Session, reduced
from flowform.sizes import check_sizes, least_size, least_sizes
from flowform.stores import experiment, observe
from tests.helpers import Maker, ResolvedMaker, raised, rows_of_answers, with_names
from tests.searching import target_of

# Each example is a line behind >>>, and below it what is shown, or "raises" with the name of an error.
EXAMPLES = (pathlib.Path(__file__).parent / "examples.txt").read_text()

TEXTS = (
    "", "a();", "return 7;", "break x;", "for (;;) {}", "while (a()) b();",
    "outer: while (row()) { while (cell()) if (bad()) continue outer; good(); }",
    "for (;;) { if (a()) break; if (b()) { c(); break; } }",
    "let on = true; while (on || a()) { on = false; b(); }",
    "try { if (a()) return 1; b(); } finally { if (c()) return 2; } d();",
    "for (;;) { try { if (a()) return; } finally { if (b()) continue; } }",
    "let odd = false; while (a()) { if (odd) { odd = false; b(); } else odd = true; }",
    "x: for (;;) { y: for (;;) { if (a()) break x; if (b()) continue x; break y; } }",
    "{ let f = true; if (f && a()) { f = false; } { if (!f || b()) c(); } }",
    "x: while (a()) { try { if (b()) break x; } finally { if (c()) continue x; } }",
    "if (a() && (b() || !c())) d(); else if (b()) return 3;",
    "loop1: while (a()) { while (b()) if (c()) continue loop1; break loop2; }",
)


class ExamplesTest(unittest.TestCase):

    def test_the_examples_of_all_points(self):
        shown = 0
        for part in re.split(r"(?m)^\[\d+\].*\n", EXAMPLES)[1:]:
            names = {}
            for example in re.split(r"(?m)^>>> ", part)[1:]:
                line, _, expected = example.strip("\n").partition("\n")
                if line.startswith("from ") or re.match(r"\w+ = ", line):
                    exec(line, names)
                    self.assertEqual(expected, "")
                elif expected.startswith("raises "):
                    error = raised(eval, line, names)
                    self.assertIs(error.__class__, getattr(errors, expected.split()[1]), line)
                else:
                    value = eval(line, names)
                    self.assertEqual(repr(value) if value is not None or expected else "", expected, line)
                    shown += 1
        self.assertGreater(shown, 80)

    def test_every_point_with_examples_is_there(self):
        points = re.findall(r"(?m)^\[(\d+)\]", EXAMPLES)
        for point in "3 23 24 43 46 53 56 62 67 71 85 93 95 104 108 112 123 131 142 145 155 164 170 178 183 205".split():
            self.assertIn(point, points)


class WholeProgramTest(unittest.TestCase):
    """A text that is read, run, drawn as a flow graph, restructured, printed and read again keeps its behaviour."""

    def check_program(self, program):
        """Check all ways from a program to other forms of it; return True if there is a smallest program."""
        graph = flow_graph(program)
        resolved = resolve(program)
        if raised(without_try, resolved) is None:
            code = assembled(without_try(resolved))
            if raised(code_graph, code) is None:
                self.assertEqual(code_graph(code), graph)
        for make in (structured, with_flags):
            if raised(make, graph) is None:
                again = with_names(make(graph))
                if raised(flow_graph, again) is None:
                    self.assertEqual(flow_graph(again), graph)
        self.assertEqual(read_program(show_program(program)), program)
        self.assertEqual(flow_graph(reduced(program)[0]), graph)
        found = False
        for depth in (0, 1, 2):
            if raised(restructure, graph, depth) is None:
                found = self.check_restructured(program, graph, depth) or found
        return found

    def check_restructured(self, program, graph, depth):
        made = restructure(graph, depth)
        if made is None:
            self.assertIsNone(least_size(graph, depth))
            self.assertIs(check_refutation(graph, depth, refute(graph, depth)), True)
            return False
        again = read_program(show_program(made))
        self.assertEqual(again, made)
        self.assertEqual(flow_graph(again), graph)
        self.assertEqual(size(again), least_size(graph, depth))
        self.assertLessEqual(jump_depth(resolve(again)), depth)
        self.assertEqual(restructure(flow_graph(again), depth), again)
        self.assertIs(behaves(graph, (0, target_of(graph), ()), resolve(again)), True)
        self.assertEqual(resolve(again), smallest(graph, depth))
        self.assertIsNone(refute(graph, depth))
        self.assertIs(check_sizes(graph, depth, least_sizes(graph, depth)), True)
        self.assertIs(check_matching(graph, flow_graph(again), matching(graph, flow_graph(again))), True)
        self.assertIsNone(experiment(graph, flow_graph(again)))
        for row in rows_of_answers(4)[-16:]:
            self.assertEqual(run(again, row), run(program, row))
        return True

    def test_texts(self):
        for text in TEXTS:
            program = read_program(text)
            self.assertTrue(self.check_program(program), text)
            session = Session(program)
            self.assertEqual(session.flow, flow_graph(program))

    def test_programs_against_each_other(self):
        graphs = [flow_graph(read_program(text)) for text in TEXTS]
        for one in graphs:
            self.assertEqual(minimal(one), one)
            for other in graphs:
                difference = compare(one, other)
                self.assertEqual(difference is None, one == other)
                if difference is not None:
                    meaning, store, most = experiment(one, other)
                    self.assertNotEqual(observe(one, meaning, store, most=most), observe(other, meaning, store, most=most))

    def test_random_programs(self):
        found = 0
        for seed in range(40):
            program = with_names(ResolvedMaker(seed, 1).body(3), 1)
            if raised(flow_graph, program) is None:
                found += self.check_program(program)
        for seed in range(60):
            program = Maker(seed, "ab").body(3)
            if raised(flow_graph, program) is None:
                found += self.check_program(program)
        self.assertGreater(found, 40)


if __name__ == "__main__":
    unittest.main()
