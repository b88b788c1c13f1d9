import unittest

from flowform.printer import show_condition, show_program
from flowform.reader import read_condition, read_program
from tests.helpers import A, B, C, Maker, nested, nots

F = ("flag", "f")
D = ("call", "d")


class ProgramsTest(unittest.TestCase):
    """Point [66]."""

    def check(self, *pairs):
        for program, shown in pairs:
            self.assertEqual(show_program(program), shown)
            self.assertEqual(read_program(shown), program)

    def test_simple_statements(self):
        self.check(
            ((), ""), ((A,), "a();\n"), ((A, B), "a();\nb();\n"),
            ((("let", "f", True),), "let f = true;\n"), ((("let", "f", False),), "let f = false;\n"),
            ((("set", "f", True),), "f = true;\n"), ((("set", "f", False),), "f = false;\n"),
            ((("break", None),), "break;\n"), ((("break", "x"),), "break x;\n"),
            ((("continue", None),), "continue;\n"), ((("continue", "x"),), "continue x;\n"),
            ((("return", None),), "return;\n"), ((("return", 0),), "return 0;\n"), ((("return", 99),), "return 99;\n"),
        )

    def test_loops_tries_and_blocks(self):
        self.check(
            ((("while", None, A, ()),), "while (a()) {\n}\n"),
            ((("while", "x", F, (A, B)),), "x: while (f) {\n  a();\n  b();\n}\n"),
            ((("for", None, (A,)), B), "for (;;) {\n  a();\n}\nb();\n"),
            ((("for", "x", ()),), "x: for (;;) {\n}\n"),
            ((("try", (), ()),), "try {\n} finally {\n}\n"),
            ((("try", (A,), (B, C)),), "try {\n  a();\n} finally {\n  b();\n  c();\n}\n"),
            ((("block", ()),), "{\n}\n"), ((("block", (A, ("block", (B,)))),), "{\n  a();\n  {\n    b();\n  }\n}\n"),
        )

    def test_ifs(self):
        self.check(
            ((("if", A, (), ()),), "if (a()) {\n}\n"), ((("if", A, (B,), ()),), "if (a()) {\n  b();\n}\n"),
            ((("if", A, (), (B,)),), "if (a()) {\n} else {\n  b();\n}\n"),
            ((("if", A, (), (("block", ()),)),), "if (a()) {\n} else {\n  {\n  }\n}\n"),
            ((("if", A, (("if", B, (), (C,)),), ()),), "if (a()) {\n  if (b()) {\n  } else {\n    c();\n  }\n}\n"),
        )

    def test_else_if(self):
        inner = ("if", B, (C,), ())
        self.check(
            ((("if", A, (), (inner,)),), "if (a()) {\n} else if (b()) {\n  c();\n}\n"),
            ((("for", None, (("if", A, (), (inner,)),)),),
             "for (;;) {\n  if (a()) {\n  } else if (b()) {\n    c();\n  }\n}\n"),
            ((("if", A, (), (("if", B, (C,), (D,)),)),),
             "if (a()) {\n} else if (b()) {\n  c();\n} else {\n  d();\n}\n"),
            ((("if", A, (), (("if", B, (), (("if", F, (C,), ()),)),)),),
             "if (a()) {\n} else if (b()) {\n} else if (f) {\n  c();\n}\n"),
            ((("if", A, (), (inner, D)),), "if (a()) {\n} else {\n  if (b()) {\n    c();\n  }\n  d();\n}\n"),
            ((("if", A, (), (("block", (inner,)),)),),
             "if (a()) {\n} else {\n  {\n    if (b()) {\n      c();\n    }\n  }\n}\n"),
        )

    def test_example(self):
        program = read_program("x: for (;;) if (!(a() && (b()))) break x; else if (c()) ; else { d(); }")
        self.check((program, "x: for (;;) {\n  if (!(a() && b())) {\n    break x;\n  } else if (c()) {\n  } else {\n"
                             "    d();\n  }\n}\n"))


class ConditionsTest(unittest.TestCase):
    """Point [67]."""

    def test_forms(self):
        both, either = ("and", (A, B)), ("or", (A, B))
        for condition, shown in (
            (A, "a()"), (F, "f"), (("not", A), "!a()"), (("not", ("not", F)), "!!f"), (both, "a() && b()"),
            (either, "a() || b()"), (("and", (A, F, C)), "a() && f && c()"), (("or", (F, B, C)), "f || b() || c()"),
            (("not", both), "!(a() && b())"), (("not", either), "!(a() || b())"),
            (("not", ("not", both)), "!!(a() && b())"),
            (("and", (either, C)), "(a() || b()) && c()"), (("and", (C, either)), "c() && (a() || b())"),
            (("or", (both, C)), "a() && b() || c()"), (("or", (C, both)), "c() || a() && b()"),
            (("and", (("not", either), ("not", C))), "!(a() || b()) && !c()"),
            (("or", (("and", (A, ("or", (B, C)))), F)), "a() && (b() || c()) || f"),
        ):
            self.assertEqual(show_condition(condition), shown)
            self.assertEqual(read_condition(shown), condition)
            self.assertEqual(show_program((("if", condition, (), ()),)), "if (" + shown + ") {\n}\n")

    def test_example(self):
        condition = ("or", (("and", (A, ("not", ("not", F)))), ("not", ("and", (B, C)))))
        self.assertEqual(show_condition(condition), "a() && !!f || !(b() && c())")


class BackTest(unittest.TestCase):
    """Point [68]."""

    def test_made_programs(self):
        maker = Maker(5)
        for _ in range(500):
            program = maker.body(4)
            self.assertEqual(read_program(show_program(program)), program)

    def test_made_conditions(self):
        maker = Maker(6)
        for _ in range(500):
            condition = maker.condition(4)
            shown = show_condition(condition)
            self.assertEqual(read_condition(shown), condition)
            self.assertEqual(read_condition("(" + shown + ")"), condition)

    def test_the_largest(self):
        for program in (nested(40), (A,) * 200, (("if", nots(20), (), ()),)):
            self.assertEqual(read_program(show_program(program)), program)
        chain = ("if", A, (), ())
        for _ in range(40):
            chain = ("if", B, (C,), (chain,))
        self.assertEqual(read_program(show_program((chain,))), (chain,))
        self.assertEqual(read_condition(show_condition(nots(20))), nots(20))
        condition = A
        for level in range(20):
            condition = (("and", "or")[level % 2], (condition, B))
        self.assertEqual(read_condition(show_condition(condition)), condition)


if __name__ == "__main__":
    unittest.main()
