import re
import unittest

from flowform.errors import FlowError
from flowform.exploring import explored
from flowform.flows import flow_graph
from flowform.graphs import minimal
from flowform.names import resolve
from flowform.naming import named
from flowform.paths import statement_at, walk
from flowform.printer import show_program
from flowform.programs import depths, places, size
from flowform.reader import read_program
from tests.helpers import A, B, BREAK, CONTINUE, ResolvedMaker, during, loop, nots, raised, when


class NamedTest(unittest.TestCase):
    """Point [174]."""

    def check(self, resolved, expected):
        self.assertEqual(named(resolved), expected)
        self.check_form(resolved)

    def check_form(self, resolved):
        """Check what holds for all programs, with the labels found in another way."""
        program = named(resolved)
        self.assertEqual(resolve(program), resolved)
        self.assertEqual((size(program), places(program), depths(program)),
                         (size(resolved), places(resolved), depths(resolved)))
        goals = set()
        for path, statement in walk(resolved):
            if statement[0] in ("break", "continue"):
                outer = [path[:end] for end in range(len(path) - 2, 0, -2)]
                outer = [one for one in outer if statement_at(resolved, one)[0] in ("while", "for")]
                goal = outer[statement[1] - 1]
                label = statement_at(program, path)[1]
                if statement[1] > 1:
                    goals.add(goal)
                    self.assertEqual(label, statement_at(program, goal)[1])
                else:
                    self.assertIsNone(label)
        outside = [statement[1].split()[1] for _, statement in walk(resolved)
                   if statement[0] == "stop" and statement[1].startswith(("break", "continue"))]
        free = (f"loop{number}" for number in range(1, 1000) if f"loop{number}" not in outside)
        for path, statement in walk(program):
            if statement[0] in ("while", "for"):
                self.assertEqual(statement[1], next(free) if path in goals else None, resolved)

    def test_statements(self):
        for program in ((), (A,), (A, B), (when(A, (B,)),), (when(A, (), (B,)),), (when(A, (A,), (B,)),),
                        (loop(),), (loop(A),), (during(A),), (during(("and", (A, ("not", B))), A, loop(B)),)):
            self.check(program, program)
        condition = ("or", (("and", (A, B)), nots(4), ("not", ("or", (A, B)))))
        self.check((when(condition, (B,)), during(condition)), (when(condition, (B,)), during(condition)))

    def test_stops(self):
        self.check((("stop", "return"),), (("return", None),))
        for number in (0, 7, 10, 99):
            self.check((("stop", f"return {number}"),), (("return", number),))
        for label in ("x", "loop", "loop1", "end", "z" * 30):
            self.check((("stop", f"break {label}"),), (("break", label),))
            self.check((loop(("stop", f"continue {label}")),), (loop(("continue", label)),))
        self.check((when(A, (("stop", "return 3"),), (during(B, ("stop", "return")),)),),
                   (when(A, (("return", 3),), (during(B, ("return", None)),)),))

    def test_jumps_to_the_innermost_loop(self):
        for word in ("break", "continue"):
            self.check((loop((word, 1)),), (loop((word, None)),))
            self.check((loop(during(A, when(B, ((word, 1),))), (word, 1)),),
                       (loop(during(A, when(B, ((word, None),))), (word, None)),))

    def test_labels(self):
        for word in ("break", "continue"):
            self.check((loop(loop((word, 2))),), (("for", "loop1", (loop((word, "loop1")),)),))
            self.check((during(A, during(B, (word, 2)), (word, 1)),),
                       (("while", "loop1", A, (during(B, (word, "loop1")), (word, None))),))
            self.check((loop(loop(loop((word, 3)))),), (("for", "loop1", (loop(loop((word, "loop1"))),)),))
            self.check((loop(loop(loop((word, 2)))),), (loop(("for", "loop1", (loop((word, "loop1")),))),))
        self.check((loop(loop(loop(("break", 3), ("continue", 2), BREAK))),), (
            ("for", "loop1", (("for", "loop2", (loop(("break", "loop1"), ("continue", "loop2"), ("break", None)),)),)),))

    def test_a_loop_with_jumps_of_both_kinds(self):
        self.check((loop(when(A, (BREAK,)), loop(("continue", 2)), CONTINUE),), (
            ("for", "loop1", (when(A, (("break", None),)), loop(("continue", "loop1")), ("continue", None))),))

    def test_order_of_the_labels(self):
        jump = when(A, (("break", 2),))
        self.check((loop(loop(jump)), loop(), loop(loop(jump)), loop(loop(BREAK))), (
            ("for", "loop1", (loop(when(A, (("break", "loop1"),))),)), loop(),
            ("for", "loop2", (loop(when(A, (("break", "loop2"),))),)), loop(loop(("break", None)))))
        # An outer loop comes first, also if the jump to it comes behind the one to the inner loop.
        self.check((loop(loop(loop(("break", 2)), loop(("break", 3)))),), (("for", "loop1", (("for", "loop2", (
            loop(("break", "loop2")), loop(("break", "loop1")))),)),))
        # In an if the first branch comes first, and what is in a loop comes before what is behind it.
        self.check((when(A, (loop(loop(("break", 2))),), (loop(loop(("break", 2))),)),), (when(
            A, (("for", "loop1", (loop(("break", "loop1")),)),), (("for", "loop2", (loop(("break", "loop2")),)),)),))

    def test_labels_outside_are_left_out(self):
        jump = loop(loop(("break", 2)))

        def labels(*statements):
            return re.findall(r"(\w+): ", show_program(named(statements)))

        self.assertEqual(labels(jump, jump, jump), ["loop1", "loop2", "loop3"])
        for word in ("break", "continue"):
            self.assertEqual(labels(("stop", word + " loop1"), jump, jump), ["loop2", "loop3"])
            self.assertEqual(labels(jump, jump, ("stop", word + " loop1")), ["loop2", "loop3"])
            self.assertEqual(labels(jump, ("stop", word + " loop2"), jump), ["loop1", "loop3"])
            self.assertEqual(labels(jump, loop(("stop", word + " loop3")), jump, jump), ["loop1", "loop2", "loop4"])
            self.assertEqual(labels(("stop", word + " loop1"), ("stop", word + " loop2"), jump), ["loop3"])
            for other in ("loop", "loop01", "Loop1", "loop1x", "xloop1", "loop10"):
                self.assertEqual(labels(("stop", word + " " + other), jump), ["loop1"])
            self.check((("stop", word + " loop2"), jump, jump), (
                (word, "loop2"), ("for", "loop1", (loop(("break", "loop1")),)),
                ("for", "loop3", (loop(("break", "loop3")),))))
        eleven = [jump] * 11
        self.assertEqual(labels(*eleven, ("stop", "break loop10")), [f"loop{n}" for n in range(1, 13) if n != 10])

    def test_names_of_calls_do_not_matter(self):
        self.check((("call", "loop1"), loop(loop(("break", 2)))),
                   (("call", "loop1"), ("for", "loop1", (loop(("break", "loop1")),))))

    def test_many_programs(self):
        labelled = 0
        for seed in range(400):
            resolved = ResolvedMaker(seed, 0, False).body(5)
            if places(resolved) <= 200:
                self.check_form(resolved)
                program = named(resolved)
                labelled += ": " in show_program(program)
                self.assertEqual(read_program(show_program(program)), program)
                if raised(flow_graph, program) is None:
                    self.assertEqual(flow_graph(program), minimal(explored(resolved)))
                else:
                    self.assertIsInstance(raised(flow_graph, program), FlowError)
        self.assertGreater(labelled, 50)

    def test_deep_and_long_programs(self):
        resolved = (("break", 40),)
        for _ in range(40):
            resolved = (loop(*resolved),)
        self.check_form(resolved)
        self.assertEqual(named(resolved)[0][1], "loop1")
        self.assertEqual(named(resolved)[0][2][0][1], None)
        self.check_form((loop(loop(("break", 2))),) * 66)


if __name__ == "__main__":
    unittest.main()
