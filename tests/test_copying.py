import unittest

from flowform.copying import without_try
from flowform.errors import TooLarge
from flowform.exploring import explored
from flowform.graphs import minimal
from flowform.paths import walk
from flowform.programs import is_too_large, places
from tests.helpers import A, B, C, ResolvedMaker, plain_events, raised, read, rows_of_answers

D = ("call", "d")
STOP = ("stop", "return")
BREAK = ("break", 1)
CONTINUE = ("continue", 1)


def attempt(body, *last):
    return ("try", body, last)


def loop(*body):
    return ("for", None, body)


def when(condition, *first):
    return ("if", condition, first, ())


class WithoutTryTest(unittest.TestCase):
    """Point [95]."""

    def check(self, resolved, expected):
        self.assertEqual(without_try(resolved), expected)
        self.check_behaviour(resolved)

    def check_behaviour(self, resolved):
        result = without_try(resolved)
        self.check_form(result, 0)
        self.assertFalse(is_too_large(result))
        for row in rows_of_answers(4)[-16:]:
            self.assertEqual(plain_events(result, row), plain_events(resolved, row), (resolved, row))

    def check_form(self, body, loops):
        """Check that there is no try, and that each jump has as many loops around it as it needs."""
        for statement in body:
            self.assertNotEqual(statement[0], "try")
            if statement[0] in ("break", "continue"):
                self.assertLessEqual(1, statement[1])
                self.assertLessEqual(statement[1], loops)
            if statement[0] == "if":
                self.check_form(statement[2], loops)
                self.check_form(statement[3], loops)
            elif statement[0] in ("while", "for"):
                self.check_form(statement[-1], loops + 1)

    def test_example(self):
        self.check(
            (loop(attempt((("while", None, A, (("break", 2),)),), when(B, CONTINUE))),),
            (loop(("while", None, A, (when(B, ("continue", 2)), ("break", 2))), when(B, CONTINUE)),))

    def test_programs_without_try(self):
        for program in ((), (A,), (loop(when(A, BREAK), B), STOP), (("set", 3, True), ("while", None, B, (CONTINUE,)))):
            self.check(program, program)

    def test_body_that_is_completed_normally(self):
        self.check((attempt((A, B), C), D), (A, B, C, D))
        self.check((when(A, attempt((B,), C), D),), (when(A, B, C, D),))
        self.check((("if", A, (), (attempt((B,), C),)),), (("if", A, (), (B, C)),))
        self.check((loop(attempt((A,), B)),), (loop(A, B),))
        self.check((("while", None, A, (attempt((B,), C),)),), (("while", None, A, (B, C)),))

    def test_body_that_is_completed_by_a_stop(self):
        self.check((attempt((STOP,), A), B), (A, STOP, A, B))
        self.check((attempt((A, when(B, STOP), C), D),), (A, when(B, D, STOP), C, D))
        self.check((attempt((("if", A, (STOP, B), (("stop", "break x"),)),), C, D),),
                   (("if", A, (C, D, STOP, B), (C, D, ("stop", "break x"))), C, D))
        self.check((attempt((loop(when(A, ("stop", "return 7"))),), B),),
                   (loop(when(A, B, ("stop", "return 7"))), B))

    def test_jumps_that_stay_inside(self):
        self.check((loop(attempt((loop(when(A, BREAK), when(B, CONTINUE)),), C)),),
                   (loop(loop(when(A, BREAK), when(B, CONTINUE)), C),))
        self.check((attempt((loop(loop(when(A, ("break", 2)), when(B, ("continue", 2)))),), C),),
                   (loop(loop(when(A, ("break", 2)), when(B, ("continue", 2)))), C))

    def test_jumps_that_lead_out(self):
        for word in ("break", "continue"):
            self.check((loop(attempt((when(A, (word, 1)),), B), C),), (loop(when(A, B, (word, 1)), B, C),))
            self.check((loop(loop(attempt((when(A, (word, 2)),), B), C)),), (loop(loop(when(A, B, (word, 2)), B, C)),))

    def test_jumps_that_lead_out_from_inside_of_loops(self):
        for word in ("break", "continue"):
            self.check((loop(attempt((loop(when(A, (word, 2)), when(B, (word, 1))),), C), D),),
                       (loop(loop(when(A, C, (word, 2)), when(B, (word, 1))), C, D),))
            self.check(
                (loop(loop(attempt((("while", None, A, (loop(when(B, (word, 3)), when(C, (word, 2))),)),), D))),),
                (loop(loop(("while", None, A, (loop(when(B, D, (word, 3)), when(C, (word, 2))),)), D)),))

    def test_jumps_in_the_copies(self):
        self.check((loop(attempt((STOP,), when(A, BREAK))),), (loop(when(A, BREAK), STOP, when(A, BREAK)),))
        self.check((loop(attempt((loop(when(A, STOP)),), when(B, BREAK))),),
                   (loop(loop(when(A, when(B, ("break", 2)), STOP)), when(B, BREAK)),))
        self.check((loop(loop(attempt((loop(loop(STOP)),), when(B, ("continue", 2)), when(C, BREAK)))),),
                   (loop(loop(loop(loop(when(B, ("continue", 4)), when(C, ("break", 3)), STOP)),
                              when(B, ("continue", 2)), when(C, BREAK))),))

    def test_jumps_in_the_copies_that_stay_inside_of_last(self):
        last = ("while", None, B, (when(A, BREAK), when(C, CONTINUE), when(D, ("break", 2))))
        copy = ("while", None, B, (when(A, BREAK), when(C, CONTINUE), when(D, ("break", 3))))
        self.check((loop(attempt((loop(STOP),), last)),), (loop(loop(copy, STOP), last),))
        last = loop(loop(when(A, ("continue", 2)), when(B, ("continue", 3))))
        copy = loop(loop(when(A, ("continue", 2)), when(B, ("continue", 4))))
        self.check((loop(attempt((loop(STOP),), last)),), (loop(loop(copy, STOP), last),))

    def test_stops_in_the_copies_stay(self):
        last = when(A, ("stop", "return 2"))
        self.check((attempt((loop(("stop", "return 1")),), last),), (loop(last, ("stop", "return 1")), last))

    def test_try_in_the_body_of_another_one(self):
        self.check((attempt((attempt((A,), B),), C),), (A, B, C))
        self.check((attempt((attempt((when(A, STOP),), B),), C),), (when(A, B, C, STOP), B, C))
        self.check((attempt((attempt((A,), when(B, STOP)),), C),), (A, when(B, C, STOP), C))
        last = when(B, ("stop", "return 2"))
        self.check((attempt((attempt((when(A, STOP),), last),), C),),
                   (when(A, when(B, C, ("stop", "return 2")), C, STOP), when(B, C, ("stop", "return 2")), C))

    def test_jumps_in_the_inner_copies_get_copies_of_the_outer_last(self):
        inner = attempt((loop(STOP),), when(A, BREAK))
        self.check(
            (loop(attempt((inner, B), when(C, CONTINUE))),),
            (loop(loop(when(A, when(C, ("continue", 2)), ("break", 2)), when(C, ("continue", 2)), STOP),
                  when(A, when(C, CONTINUE), BREAK), B, when(C, CONTINUE)),))
        inner = loop(attempt((STOP,), when(A, BREAK)))
        self.check((attempt((inner,), B),), (loop(when(A, BREAK), B, STOP, when(A, BREAK)), B))

    def test_several_tries_side_by_side(self):
        self.check((attempt((when(A, STOP),), B), attempt((when(B, STOP),), C)),
                   (when(A, B, STOP), B, when(B, C, STOP), C))

    def test_empty_bodies(self):
        self.check((attempt(()),), ())
        self.check((attempt((), A), B), (A, B))
        self.check((attempt((A, STOP)), B), (A, STOP, B))
        self.check((loop(attempt((when(A, BREAK), loop(STOP)))),), (loop(when(A, BREAK), loop(STOP)),))
        self.check((when(A, attempt(())),), (when(A),))

    def test_texts(self):
        for text in (
            "try { if (a()) return 1; b(); } finally { if (c()) return 2; } d();",
            "for (;;) { try { return; } finally { if (a()) continue; } }",
            "x: while (a()) { try { if (b()) return 1; } finally { c(); } }",
            "let f = false; x: for (;;) { try { while (a()) { f = true; if (b()) continue x; } } "
            "finally { if (f) { f = false; break; } } }",
        ):
            resolved = read(text)
            self.check_behaviour(resolved)
            self.assertEqual(minimal(explored(without_try(resolved))), minimal(explored(resolved)))

    def test_programs_of_a_maker(self):
        changed = 0
        for seed in range(500):
            program = ResolvedMaker(seed, seed % 4).body(4)
            if raised(without_try, program) is None:
                self.check_behaviour(program)
                changed += without_try(program) != program
        self.assertGreater(changed, 150)

    def test_the_program_stays_as_it_is(self):
        program = (loop(attempt((loop(("break", 2)),), when(A, CONTINUE))),)
        same = (loop(attempt((loop(("break", 2)),), when(A, CONTINUE))),)
        without_try(program)
        self.assertEqual(program, same)


class TooLargeTest(unittest.TestCase):
    """Point [95]: TooLarge."""

    def check(self, resolved, is_wrong):
        error = raised(without_try, resolved)
        self.assertIs(error.__class__, TooLarge if is_wrong else None.__class__)

    def test_places(self):
        self.check((A,) * 200, False)
        self.check((A,) * 201, True)
        self.check((attempt((A,) * 100, *((B,) * 99)),), False)
        self.assertEqual(places(without_try((attempt((STOP,), *((A,) * 99)), B))), 200)
        self.check((attempt((STOP,), *((A,) * 99)), B), False)
        self.check((attempt((STOP,), *((A,) * 99)), B, C), True)
        self.check((attempt((STOP,), *((A,) * 100)),), True)

    def test_a_program_that_is_too_large_only_with_try(self):
        self.check((attempt((A,) * 200),), False)
        self.check((attempt((A,) * 201),), True)

    def test_depth_of_statements(self):
        deep = (A,)
        for _ in range(20):
            deep = (loop(*deep),)
        self.check((attempt(deep, *deep),), False)
        inside = (STOP,)
        for _ in range(20):
            inside = (loop(*inside),)
        self.check((attempt(inside, *deep),), False)
        self.check((attempt(inside, loop(*deep)),), True)
        self.check((attempt((loop(*inside),), *deep),), True)
        self.check((when(B, attempt(inside, *deep)),), True)
        self.assertEqual(max(len(path) for path, _ in walk(without_try((attempt(inside, *deep),)))) // 2, 40)

    def test_a_try_does_not_count_in_the_depth_of_the_result(self):
        deep = (A,)
        for _ in range(40):
            deep = (attempt(deep),)
        self.assertEqual(without_try(deep), (A,))

    def test_depth_of_conditions(self):
        condition = A
        for _ in range(20):
            condition = ("not", condition)
        self.check((attempt((STOP,), when(condition, B)),), False)
        self.check((attempt((STOP,), when(("not", condition), B)),), True)

    def test_very_many_copies(self):
        body = (STOP,)
        for _ in range(30):
            body = (attempt(body, when(A, STOP), when(B, STOP)),)
        self.check(body, True)
        self.check((loop(attempt((when(A, *body),), B)),), True)


if __name__ == "__main__":
    unittest.main()
