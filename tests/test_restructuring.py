import random
import re
import unittest

from flowform.blocks import smallest
from flowform.errors import TooLarge, TooManyPositions
from flowform.exploring import explored
from flowform.flows import flow_graph
from flowform.graphs import minimal, run_graph
from flowform.names import jump_depth, resolve
from flowform.naming import named
from flowform.paths import walk
from flowform.positions import position_count
from flowform.printer import show_program
from flowform.programs import depths, is_too_large, operands, places, whole_conditions
from flowform.reader import read_program
from flowform.restructuring import restructure, structured, with_flags
from flowform.running import run
from flowform.sizes import least_size
from tests.helpers import A, ResolvedMaker, flow, plain_events, raised, random_graph, rows_of_answers, with_names
from tests.searching import BREAKS, END, FORTY_ONE, HANG, RETURN, ROWS, any_graph, call, call_count, row_graph

OUTCOMES = ("end", "hang", "return", "return 7", "break x", "continue x", "break loop1")


def behaviour(resolved):
    """Return the events of a resolved program after all rows of at most five answers."""
    seen = {}
    waiting = [()]
    while waiting:
        row = waiting.pop(0)
        events = plain_events(resolved, row)
        seen[row] = events
        if events[-1].endswith("()") and len(row) < 5:
            waiting += [row + (True,), row + (False,)]
    return seen


class RestructureTest(unittest.TestCase):
    """Points [175] and [178]."""

    def check(self, text, depth, printed):
        graph = flow(text)
        self.assertEqual(show_program(restructure(graph, depth)), printed)
        self.assertEqual(flow_graph(restructure(graph, depth)), graph)

    def test_examples(self):
        self.assertIsNone(restructure(BREAKS, 0))
        self.check("for (;;) { if (a()) break; if (b()) { c(); break; } }", 1,
                   "while (!a()) {\n  if (b()) {\n    c();\n    break;\n  }\n}\n")
        self.check("outer: while (row()) { while (cell()) if (bad()) continue outer; good(); }", 1,
                   "while (row()) {\n  for (;;) {\n    if (!cell()) {\n      good();\n      break;\n    }\n"
                   "    if (bad()) {\n      break;\n    }\n  }\n}\n")
        self.assertIsNone(restructure(ROWS, 0))

    def test_labels(self):
        self.check("outer: while (row()) { while (cell()) if (bad()) continue outer; good(); }", 2,
                   "loop1: while (row()) {\n  while (cell()) {\n    if (bad()) {\n      continue loop1;\n    }\n  }\n"
                   "  good();\n}\n")
        self.check("outer: while (row()) { while (cell()) if (bad()) break loop1; good(); }", 1,
                   "while (row()) {\n  while (cell()) {\n    if (bad()) {\n      break loop1;\n    }\n  }\n  good();\n}\n")
        self.check("x: while (a()) { while (b()) if (c()) continue x; break loop1; }", 2,
                   "loop2: while (a()) {\n  while (b()) {\n    if (c()) {\n      continue loop2;\n    }\n  }\n"
                   "  break loop1;\n}\n")

    def test_graphs_without_a_call(self):
        for depth in range(4):
            for text, program in (("", ()), ("for (;;) {}", (("for", None, ()),)), ("return;", (("return", None),)),
                                  ("return 42;", (("return", 42),)), ("break x;", (("break", "x"),)),
                                  ("continue loop1;", (("continue", "loop1"),))):
                self.assertEqual(restructure(flow(text), depth), program)

    def test_it_is_the_smallest_program_with_names(self):
        found = 0
        for seed in range(60):
            graph = any_graph(seed, 3, ("end", "return", "break loop1")[:seed % 4], "abc")
            depth = seed % 3
            if raised(position_count, graph, depth) is None and (least_size(graph, depth) or 0) <= 40:
                program = smallest(graph, depth)
                self.assertEqual(restructure(graph, depth), None if program is None else named(program))
                found += program is not None
        self.assertGreater(found, 25)

    def test_programs_of_all_kinds(self):
        """Programs with flags, try, labels and blocks; what is made of them is made again of itself."""
        texts = (
            "let on = true; while (on) { if (a()) on = false; b(); }",
            "while (a()) { try { if (b()) return 1; } finally { c(); } }",
            "for (;;) { try { if (a()) continue; b(); } finally { c(); } }",
            "let f = false; while (a()) { if (b()) f = true; } if (f) c(); else return;",
            "x: for (;;) { y: for (;;) { if (a()) break x; if (b()) continue x; break y; } }",
            "{ let f = true; { if (f && a()) f = false; } if (f || b()) c(); }",
            "try { a(); } finally { if (b()) return 2; }",
            "let odd = false; while (a()) { if (odd) { odd = false; b(); } else odd = true; }",
            "if (a()) break x; else for (;;) {}",
            "if (a() || !a()) b(); else c();",
        )
        for text in texts:
            graph = flow(text)
            for depth in (1, 2):
                if raised(position_count, graph, depth) is None:
                    program = restructure(graph, depth)
                    self.assertIsNotNone(program, text)
                    self.assertEqual(flow_graph(program), graph)
                    self.assertEqual(restructure(flow_graph(program), depth), program)
                    self.assertLessEqual(jump_depth(resolve(program)), depth)
                    self.assertIsNone(re.search(r"let|try|=", show_program(program)))
                    for row in rows_of_answers(4):
                        self.assertEqual(run(program, row), run(read_program(text), row))

    def test_random_programs(self):
        found = 0
        for seed in range(150):
            program = with_names(ResolvedMaker(seed, 2).body(3), 2)
            depth = seed % 3
            if raised(flow_graph, program) is None and raised(restructure, flow_graph(program), depth) is None:
                again = restructure(flow_graph(program), depth)
                if again is not None:
                    self.assertEqual(flow_graph(again), flow_graph(program))
                    self.assertEqual(restructure(flow_graph(again), depth), again)
                    found += 1
        self.assertGreater(found, 80)

    def test_errors(self):
        self.assertEqual(raised(restructure, row_graph(10, ("end",)), 0).count, 110)
        self.assertIs(raised(restructure, row_graph(10, ("end",)), 2).__class__, TooManyPositions)
        self.assertIs(raised(restructure, FORTY_ONE, 1).__class__, TooLarge)


class StructuredTest(unittest.TestCase):
    """Points [176] and [178]."""

    def test_example(self):
        self.assertEqual(structured(flow("while (a()) b();")), (
            ("for", None, (("if", A, (("for", None, (("if", ("call", "b"), (("continue", 2),), (("continue", 2),)),)),),
                            (("break", 1),)),)),))

    def test_graphs_without_a_call(self):
        for outcome in OUTCOMES:
            expected = {"end": (), "hang": (("for", None, ()),)}.get(outcome, (("stop", outcome),))
            self.assertEqual(structured((("outcome", outcome), call("a", 0, 0))), expected)

    def test_each_kind_of_outcome_inside_of_loops(self):
        for outcome in OUTCOMES:
            made = {"end": (("break", 1),), "hang": (("for", None, ()),)}.get(outcome, (("stop", outcome),))
            graph = (call("a", 0, 1), ("outcome", outcome))
            self.assertEqual(structured(graph), (("for", None, (("if", A, (("continue", 1),), made),)),))
            made = {"end": (("break", 2),)}.get(outcome, made)
            graph = (call("a", 1, 1), call("b", 0, 2), ("outcome", outcome))
            inner = (("for", None, (("if", ("call", "b"), (("continue", 2),), made),)),)
            self.assertEqual(structured(graph), (("for", None, (("if", A, inner, inner),)),))

    def test_calls_around(self):
        graph = (call("a", 1, 1), call("b", 2, 1), call("c", 0, 1), END)

        def one(name, first, second):
            return (("for", None, (("if", ("call", name), first, second),)),)

        third = one("c", (("continue", 3),), (("continue", 2),))
        second = one("b", third, (("continue", 1),))
        self.assertEqual(structured(graph), one("a", second, second))

    def test_same_behaviour(self):
        found = 0
        for seed in range(200):
            graph = random_graph(seed, 6, "abc", ("end", "hang", "return", "break x"))
            if raised(structured, graph) is None:
                program = structured(graph)
                small = minimal(graph)
                self.assertFalse(is_too_large(program))
                self.assertLessEqual(jump_depth(program), call_count(small))
                self.assertLessEqual({statement[0] for _, statement in walk(program)},
                                     {"for", "if", "break", "continue", "stop"})
                self.assertEqual(minimal(explored(program)), small)
                self.assertEqual(structured(small), program)
                found += 1
            else:
                self.assertIs(raised(structured, graph).__class__, TooLarge)
        self.assertGreater(found, 120)

    def test_too_large_by_places(self):
        # Each call has three places, and each way that ends has one.
        names = [f"c{number}" for number in range(5)]
        graph = tuple(call(name, number + 1, number + 1) for number, name in enumerate(names)) + (END,)
        self.assertEqual(places(structured(graph)), 3 * 31 + 32)
        graph = tuple(call(name, number + 1, number + 1) for number, name in enumerate(names + ["d"])) + (END,)
        self.assertIs(raised(structured, graph).__class__, TooLarge)

    def test_exactly_200_places(self):
        """Without loops a program has 4 n + 1 places, 197 and 201 among them."""
        found = {}
        for seed in range(3000):
            chooser = random.Random(seed)
            many = chooser.randint(5, 9)
            nodes = [call(f"c{n}", n + 1, chooser.randint(n + 1, many)) for n in range(many)]
            graph = tuple(nodes) + (END,)
            count = unfolded_places(graph, 0, ())
            if 190 <= count <= 210:
                found[count] = graph
        self.assertLessEqual({197, 201}, set(found))
        for count, graph in found.items():
            if count > 200:
                self.assertIs(raised(structured, graph).__class__, TooLarge)
            else:
                self.assertEqual(places(structured(graph)), count)
        hanging = {}
        for graph in found.values():
            for seed in range(20):
                chooser = random.Random(seed)
                other = graph[:-1] + (RETURN, HANG, END)
                many = len(graph) - 1
                other = tuple(
                    node if node[0] == "outcome" else call(node[1], *[
                        other_end if other_end < many else many + chooser.randint(0, 2) for other_end in node[2:]])
                    for node in other)
                hanging[unfolded_places(minimal(other), 0, ())] = other
        for count, graph in hanging.items():
            self.assertEqual(raised(structured, graph) is not None, count > 200)

    def test_too_large_by_depth(self):
        for many in (19, 20, 21, 25, 99):
            graph = tuple(call(f"c{number}", number + 1, many + 1) for number in range(many)) + (END, RETURN)
            error = raised(structured, graph)
            if many <= 20:
                self.assertIsNone(error)
                self.assertEqual(depths(structured(graph))[0], 2 * many)
                self.assertLess(places(structured(graph)), 200)
            else:
                self.assertIs(error.__class__, TooLarge)

    def test_far_too_large(self):
        graph = tuple(call(f"c{number}", (number + 1) % 99, (number * 7 + 3) % 99) for number in range(99))
        self.assertIs(raised(structured, graph).__class__, TooLarge)
        graph = tuple(call(f"c{number}", number + 1, number + 1) for number in range(99)) + (END,)
        self.assertIs(raised(structured, graph).__class__, TooLarge)

    def test_positions_do_not_matter(self):
        # One branch stops at once, and k * t is 13 * 15.
        graph = row_graph(13, ("end", "return"))
        self.assertIs(raised(position_count, graph, 0).__class__, TooManyPositions)
        self.assertEqual(minimal(explored(structured(graph))), graph)


def unfolded_places(graph, node, around):
    """Return the number of places of what [176] makes at a node."""
    if graph[node][0] == "outcome":
        return 0 if graph[node] == END and not around else 1
    if node in around:
        return 1
    inner = around + (node,)
    return 3 + unfolded_places(graph, graph[node][2], inner) + unfolded_places(graph, graph[node][3], inner)


class WithFlagsTest(unittest.TestCase):
    """Points [177] and [178]."""

    def test_example(self):
        self.assertEqual(with_flags((call("a", 1, 1), call("a", 0, 2), END)), (
            ("set", 0, False), ("set", 1, False),
            ("while", None, ("or", (("flag", 0), ("not", ("flag", 1)))), (
                ("if", ("flag", 1), (), (("if", ("flag", 0), (
                    ("if", A, (("set", 0, False), ("set", 1, False)), (("set", 0, False), ("set", 1, True))),), (
                    ("if", A, (("set", 0, True), ("set", 1, False)), (("set", 0, True), ("set", 1, False))),)),)),))))

    def test_graphs_without_a_call(self):
        for outcome in OUTCOMES:
            expected = {"end": (), "hang": (("for", None, ()),)}.get(outcome, (("stop", outcome),))
            self.assertEqual(with_flags((("outcome", outcome), call("a", 0, 0))), expected)

    def test_one_call(self):
        self.assertEqual(with_flags((call("a", 0, 0),)), (("for", None, (("if", A, (), ()),)),))
        for outcome in ("return", "return 7", "break x", "continue x"):
            self.assertEqual(with_flags((call("a", 0, 1), ("outcome", outcome))), (
                ("for", None, (("if", A, (), (("stop", outcome),)),)),))
        self.assertEqual(with_flags((call("a", 0, 1), HANG)), (("for", None, (("if", A, (), (("for", None, ()),)),)),))
        self.assertEqual(with_flags((call("a", 0, 1), END)), (
            ("set", 0, False),
            ("while", None, ("not", ("flag", 0)), (
                ("if", ("flag", 0), (), (("if", A, (("set", 0, False),), (("set", 0, True),)),)),))))

    def test_two_calls(self):
        chosen = (("if", ("call", "b"), (("set", 0, False),), (("stop", "return"),)),)
        self.assertEqual(with_flags((call("a", 1, 1), call("b", 0, 2), RETURN)), (
            ("set", 0, False), ("for", None, (("if", ("flag", 0), chosen, (
                ("if", A, (("set", 0, True),), (("set", 0, True),)),)),))))

    def test_three_calls_and_end(self):
        graph = (call("a", 1, 3), call("b", 2, 3), call("c", 0, 3), END)
        program = with_flags(graph)
        self.assertEqual(program[2][2], ("or", (("not", ("flag", 0)), ("not", ("flag", 1)))))

        def both(low, high):
            return (("set", 0, low), ("set", 1, high))

        end = both(True, True)
        self.assertEqual(program[2][3], (("if", ("flag", 1), (
            ("if", ("flag", 0), (), (("if", ("call", "c"), both(False, False), end),)),), (
            ("if", ("flag", 0), (("if", ("call", "b"), both(False, True), end),),
             (("if", A, both(True, False), end),)),)),))

    def test_choices_without_a_call(self):
        # Five calls: with the bit 4 there is only one code, so the flags below it have empty choices.
        graph = row_graph(5, ("return",))
        body = with_flags(graph)[-1][2]
        self.assertEqual(body[0][1], ("flag", 2))
        self.assertEqual(body[0][2], (("if", ("flag", 1), (), (("if", ("flag", 0), (), (
            ("if", ("call", "e"), (("stop", "return"),), (("set", 0, False), ("set", 1, False), ("set", 2, False))),)),)),))

    def test_numbers_of_calls(self):
        """The number of flags, the condition of the loop, and the form of the program."""
        names = "abcdefghijklmnopq"
        for calls in range(1, 18):
            for outcomes in (("end",), ("return",), ("end", "return"), ()):
                if calls < len(outcomes) - 1:
                    continue
                graph = row_graph(calls, outcomes, names)
                self.assertEqual(call_count(graph), calls)
                has_end = "end" in outcomes
                codes = calls + has_end
                if codes > 16:
                    self.assertIs(raised(with_flags, graph).__class__, TooLarge)
                else:
                    self.check_form(graph, calls, codes, has_end)

    def check_form(self, graph, calls, codes, has_end):
        program = with_flags(graph)
        flags = min(number for number in range(5) if 2 ** number >= codes)
        self.assertEqual(program[:-1], tuple(("set", number, False) for number in range(flags)))
        loop = program[-1]
        if has_end:
            parts = [("not", ("flag", n)) if calls // 2 ** n % 2 else ("flag", n) for n in range(flags)]
            self.assertEqual(loop[:3], ("while", None, parts[0] if flags == 1 else ("or", tuple(parts))))
        else:
            self.assertEqual(loop[:2], ("for", None))
        self.assertFalse(is_too_large(program))
        kinds = [statement[0] for _, statement in walk(loop[-1])]
        self.assertLessEqual(set(kinds), {"set", "if", "stop"})
        conditions = [whole_conditions(statement)[0] for _, statement in walk(loop[-1]) if statement[0] == "if"]
        self.assertEqual([name for kind, name in conditions if kind == "call"], [node[1] for node in graph[:calls]][::-1])
        for row in ((), (True,) * 3, (True,) * 20, (False,), (True, False), (True,) * 7 + (False,), (True, True, False)):
            self.assertEqual(plain_events(program, row), run_graph(graph, row))

    def test_same_behaviour(self):
        for seed in range(200):
            graph = random_graph(seed, 6, "abc", ("end", "hang", "return", "break x"))
            program = with_flags(graph)
            self.assertEqual(minimal(explored(program)), minimal(graph))
            self.assertEqual(with_flags(minimal(graph)), program)
            kinds = [statement[0] for _, statement in walk(program)]
            self.assertLessEqual(set(kinds), {"set", "if", "stop", "for", "while"})
            with_calls = [statement for _, statement in walk(program) if statement[0] in ("for", "while")
                          and "call" in repr(statement)]
            self.assertLessEqual(len(with_calls), 1)

    def test_greatest_programs(self):
        for calls, outcomes in ((16, ("return",)), (15, ("end",)), (15, ("return", "hang")), (16, ())):
            graph = row_graph(calls, outcomes, "abcdefghijklmnop")
            program = with_flags(graph)
            self.assertLessEqual(places(program), 200)
            self.assertEqual(behaviour(program), {row: run_graph(graph, row) for row in behaviour(program)})

    def test_too_large(self):
        for calls, outcomes in ((17, ("return",)), (16, ("end",)), (17, ()), (30, ("end", "return")), (99, ("end",))):
            graph = row_graph(calls, outcomes, [f"c{number}" for number in range(99)])
            self.assertIs(raised(with_flags, graph).__class__, TooLarge)

    def test_conditions(self):
        for seed in range(60):
            for _, statement in walk(with_flags(random_graph(seed, 8, "abc", ("end", "return")))):
                for condition in whole_conditions(statement):
                    self.assertTrue(condition[0] != "or" or len(operands(condition)) in (2, 3, 4))


if __name__ == "__main__":
    unittest.main()
