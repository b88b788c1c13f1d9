import unittest

from flowform.assembling import assembled
from flowform.coding import code_graph, run_code
from flowform.errors import FlowError
from flowform.exploring import explored
from flowform.graphs import minimal
from flowform.programs import places
from flowform.words import is_outcome
from tests.helpers import A, B, C, ResolvedMaker, plain_events, raised, read, rows_of_answers

FLAG = ("flag", 0)
SET = ("set", 0, True)
KINDS = {"call": (str, int, int), "test": (int, int, int), "set": (int, bool, int), "jump": (int,), "stop": (str,)}
PLACES_OF_NUMBERS = {"call": (2, 3), "test": (2, 3), "set": (3,), "jump": (1,), "stop": ()}


class AssemblingTest(unittest.TestCase):
    """Point [108]."""

    def check(self, resolved, most_answers=4):
        code = assembled(resolved)
        self.check_form(code)
        self.assertLessEqual(len(code), places(resolved) + 1, resolved)
        for row in rows_of_answers(most_answers)[-2 ** most_answers:]:
            self.assertEqual(run_code(code, row), plain_events(resolved, row), (resolved, row))
        if raised(explored, resolved) is None:
            graph = minimal(explored(resolved))
            if len(graph) <= 40:
                self.assertEqual(code_graph(code), graph)
        return code

    def check_form(self, code):
        self.assertIsInstance(code, tuple)
        self.assertGreater(len(code), 0)
        for instruction in code:
            self.assertIsInstance(instruction, tuple)
            kind, *rest = instruction
            self.assertEqual(tuple(one.__class__ for one in rest), KINDS[kind])
            for place in PLACES_OF_NUMBERS[kind]:
                self.assertIn(instruction[place], range(len(code)))
            if kind in ("test", "set"):
                self.assertIn(instruction[1], range(4))
            if kind == "stop":
                self.assertTrue(is_outcome(instruction[1]))
                self.assertNotEqual(instruction[1], "hang")

    def test_example(self):
        code = assembled((("for", None, (("if", A, (("break", 1),), ()),)),))
        self.assertEqual(code_graph(code), (("call", "a", 1, 0), ("outcome", "end")))

    def test_empty_program(self):
        self.assertEqual(self.check(()), (("stop", "end"),))

    def test_each_kind_of_statement(self):
        for body in (
            (A,), (A, B), (SET,), (("set", 3, False), A), (("stop", "return"),), (("stop", "return 9"), A),
            (("if", A, (B,), ()),), (("if", A, (), (B,)),), (("if", A, (), ()),), (("if", A, (B,), (C,)), A),
            (("while", None, A, ()),), (("while", None, A, (B,)), C), (("for", None, ()),), (("for", None, (A,)),),
            (("for", None, (("break", 1),)), A), (("for", None, (("continue", 1),)), A),
            (("stop", "break x"),), (A, ("stop", "continue x"), B), (SET, ("while", None, FLAG, (A,))),
            (("while", None, A, (("if", B, (("continue", 1),), (("break", 1),)), C)), A),
        ):
            self.check(body)
            self.check((("for", None, body),))
            self.check((("if", A, body, body),) + body)
            self.check((A,) + body + (B,))

    def test_no_stop_with_hang(self):
        for body in ((("for", None, ()),), (("for", None, (("for", None, ()),)),), (SET, ("while", None, FLAG, ())),
                     (A, ("for", None, (("for", None, (("continue", 2),)),)))):
            code = self.check(body)
            self.assertNotIn(("stop", "hang"), code)

    def test_each_kind_of_condition(self):
        n = ("not", B)
        for condition in (
            A, FLAG, ("not", A), ("not", ("not", FLAG)), ("and", (A, B)), ("or", (A, B)), ("and", (A, B, C)),
            ("or", (A, B, C)), ("and", (A, ("or", (n, C)), FLAG)), ("or", (("and", (A, n)), C, ("not", FLAG))),
            ("not", ("and", (("not", ("or", (A, FLAG))), ("not", ("and", (B, C)))))),
        ):
            self.check((("if", condition, (("call", "x"),), (("call", "y"),)),))
            self.check((("while", None, condition, (SET, ("call", "x"))), ("call", "y")))

    def test_jumps_over_several_loops(self):
        for word in ("break", "continue"):
            for number in (1, 2, 3):
                inner = ("while", None, B, (("if", C, ((word, number),), ()), ("call", "d")))
                middle = ("for", None, (inner, ("call", "e")))
                self.check((("while", None, A, (middle, ("call", "f"))), ("call", "g")), 6)

    def test_flags_at_the_start(self):
        self.check((("if", ("flag", 2), (A,), (B,)),))
        self.check((("while", None, ("not", ("flag", 3)), (("if", A, (("set", 3, True),), ()),)),))

    def test_as_many_instructions_as_places_and_one_more(self):
        for many in (0, 1, 50, 200):
            self.assertEqual(len(self.check((A,) * many, 1)), many + 1)
        for body in ((("stop", "return"),) * 200, (("for", None, ()),) * 200, (("if", A, (), ()),) * 100,
                     (("while", None, ("or", (A, B)), ()),) * 50, (("if", ("not", ("not", A)), (), ()),) * 50):
            self.check(body, 1)

    def test_deep_programs(self):
        body = (("continue", 20),)
        for level in range(40):
            body = (("if", A, body, (B,)),) if level % 2 else (("for", None, body + (C, ("break", 1))),)
        self.check(body, 2)
        condition = A
        for level in range(20):
            condition = ("not", condition) if level % 2 else (("and", "or")[level % 4 == 0], (B, condition))
        self.check((("while", None, condition, (C,)),), 6)

    def test_programs_of_a_maker(self):
        for seed in range(600):
            self.check(ResolvedMaker(seed, seed % 5, tries=False).body(4), 3)

    def test_texts(self):
        for text in ("outer: while (row()) { while (cell()) if (bad()) continue outer; good(); }",
                     "let on = true; while (on || a()) { on = false; b(); }",
                     "for (;;) { if (a()) break; if (b()) { c(); break; } }"):
            self.check(read(text), 6)

    def test_no_errors(self):
        for seed in range(200):
            self.assertNotIsInstance(raised(assembled, ResolvedMaker(seed, 4, tries=False).body(5)), FlowError)


if __name__ == "__main__":
    unittest.main()
