import unittest

from flowform.errors import TooManyConfigurations
from flowform.exploring import explored
from tests.helpers import A, B, C, ResolvedMaker, plain_explored, raised, read

SET = ("set", 0, True)
UNSET = ("set", 0, False)
STOP = ("stop", "return")
END = ("outcome", "end")


class ConfigurationsTest(unittest.TestCase):
    """Points [90] and [91]."""

    def check(self, resolved, expected):
        self.assertEqual(explored(resolved), expected)
        self.assertEqual(plain_explored(resolved), expected)

    def test_examples(self):
        self.check(read("x: while (a()) { try { if (b()) return 1; } finally { c(); } }"), (
            ("call", "a", 1, 4), ("call", "b", 2, 3), ("call", "c", 5, 5), ("call", "c", 0, 0),
            END, ("outcome", "return 1")))
        self.check((("for", None, ()),), (("outcome", "hang"),))

    def test_no_calls(self):
        self.check((), (END,))
        self.check((STOP,), (("outcome", "return"),))
        self.check((SET, ("if", ("flag", 0), (("stop", "break x"),), (STOP,))), (("outcome", "break x"),))

    def test_calls_of_the_same_name_at_different_places(self):
        self.check((A, A), (("call", "a", 1, 1), ("call", "a", 2, 2), END))
        self.check((("if", A, (A,), (A,)), A), (
            ("call", "a", 1, 2), ("call", "a", 3, 3), ("call", "a", 3, 3), ("call", "a", 4, 4), END))
        self.check((("if", ("or", (A, ("and", (A, A)))), (), ()),), (
            ("call", "a", 3, 1), ("call", "a", 2, 3), ("call", "a", 3, 3), END))

    def test_the_nodes_are_not_minimal(self):
        self.check((("for", None, (A, A)),), (("call", "a", 1, 1), ("call", "a", 0, 0)))
        self.check((("while", None, A, (("continue", 1),)),), (("call", "a", 0, 1), END))

    def test_calls_that_are_not_reached(self):
        self.check((STOP, A), (("outcome", "return"),))
        self.check((SET, ("if", ("flag", 0), (A,), (B,))), (("call", "a", 1, 1), END))
        self.check((A, ("for", None, ()), B), (("call", "a", 1, 1), ("outcome", "hang")))
        self.check((("try", (("for", None, (A,)),), (B,)),), (("call", "a", 0, 0),))

    def test_configurations_that_differ_only_in_flags(self):
        self.check((("if", A, (SET,), ()), B), (("call", "a", 1, 2), ("call", "b", 3, 3), ("call", "b", 3, 3), END))
        self.check((("for", None, (("if", A, (SET,), (UNSET,)),)),), (("call", "a", 1, 0), ("call", "a", 1, 0)))
        self.check((("if", A, (SET, UNSET), ()), B), (("call", "a", 1, 1), ("call", "b", 2, 2), END))
        self.check((("for", None, (A, ("if", ("flag", 0), (("set", 1, True),), ()), SET)),), (
            ("call", "a", 1, 1), ("call", "a", 2, 2), ("call", "a", 2, 2)))

    def test_a_flag_keeps_its_value_when_the_body_of_its_declaration_has_been_left(self):
        self.check(read("if (a()) { let f = true; } else { let g = true; } b();"), (
            ("call", "a", 1, 2), ("call", "b", 3, 3), ("call", "b", 3, 3), END))

    def test_flags_that_are_asked_before_they_are_set(self):
        self.check((("if", ("flag", 3), (A,), (B,)),), (("call", "b", 1, 1), END))
        self.check((("while", None, ("not", ("flag", 0)), (("if", A, (SET,), ()),)),), (("call", "a", 1, 0), END))

    def test_configurations_that_differ_only_in_the_completion(self):
        returns = (("if", A, (("stop", "return 1"),), (("stop", "return 2"),)),)
        self.check((("try", returns, (B,)),), (
            ("call", "a", 1, 2), ("call", "b", 3, 3), ("call", "b", 4, 4),
            ("outcome", "return 1"), ("outcome", "return 2")))
        normal = (("if", A, (STOP,), ()),)
        self.check((("try", normal, (B, C)),), (
            ("call", "a", 1, 2), ("call", "b", 3, 3), ("call", "b", 4, 4), ("call", "c", 5, 5), ("call", "c", 6, 6),
            ("outcome", "return"), END))
        jumps = (("if", A, (("break", 1),), (("continue", 1),)),)
        self.check((("for", None, (("try", jumps, (B,)),)),), (
            ("call", "a", 1, 2), ("call", "b", 3, 3), ("call", "b", 0, 0), END))
        far = (("if", A, (("continue", 1),), (("continue", 2),)),)
        self.check((("for", None, (("for", None, (("try", far, (B,)),)),)),), (
            ("call", "a", 1, 2), ("call", "b", 0, 0), ("call", "b", 0, 0)))

    def test_completed_normally_and_by_a_continue_that_goes_on_at_the_same_place(self):
        self.check((("for", None, (("try", (("if", A, (("continue", 1),), ()),), (B,)),)),), (
            ("call", "a", 1, 2), ("call", "b", 0, 0), ("call", "b", 0, 0)))

    def test_two_ways_to_the_same_completion(self):
        twice = (("if", A, (("if", B, (STOP,), (STOP,)),), (STOP,)),)
        self.check((("try", twice, (C,)),), (
            ("call", "a", 1, 2), ("call", "b", 2, 2), ("call", "c", 3, 3), ("outcome", "return")))
        # The first break leads to the same loop as the second one: counted from the try outwards both are 1.
        inner = (("if", A, (("break", 1),), (("while", None, B, (("break", 2),)),)),)
        self.check((("for", None, (("try", inner, (C,)),)),), (
            ("call", "a", 1, 2), ("call", "c", 4, 4), ("call", "b", 1, 3), ("call", "c", 0, 0), END))
        self.check((("try", (("if", A, (B,), ()),), (C,)),), (
            ("call", "a", 1, 2), ("call", "b", 2, 2), ("call", "c", 3, 3), END))

    def test_the_completion_does_not_matter_outside_of_last(self):
        loop = ("for", None, (("try", (("if", A, (("continue", 1),), ()),), ()), B))
        self.check((loop,), (("call", "a", 0, 1), ("call", "b", 0, 0)))
        inside = (("try", (A,), (B,)), C)
        self.check((("try", inside, (A,)),), (
            ("call", "a", 1, 1), ("call", "b", 2, 2), ("call", "c", 3, 3), ("call", "a", 4, 4), END))

    def test_last_in_the_body_of_another_try(self):
        inner = (("try", (("if", A, (("break", 1),), ()),), (B,)),)
        self.check((("for", None, (("try", inner, (C,)),)),), (
            ("call", "a", 1, 2), ("call", "b", 3, 3), ("call", "b", 4, 4), ("call", "c", 5, 5), ("call", "c", 0, 0),
            END))
        replaced = (("try", (("if", A, (("break", 1),), ()),), (("stop", "return 5"),)),)
        self.check((("for", None, (("try", replaced, (C,)),)),), (
            ("call", "a", 1, 1), ("call", "c", 2, 2), ("outcome", "return 5")))

    def test_order_of_the_nodes(self):
        program = (("if", A, (("stop", "return 1"),), (("if", B, (("stop", "return 2"),), (C,)),)),)
        self.check(program, (
            ("call", "a", 3, 1), ("call", "b", 4, 2), ("call", "c", 5, 5),
            ("outcome", "return 1"), ("outcome", "return 2"), END))
        wide = (("if", A, (("if", B, (A,), (B,)),), (("if", C, (B,), (C,)),)),)
        self.check(wide, (
            ("call", "a", 1, 2), ("call", "b", 3, 4), ("call", "c", 5, 6), ("call", "a", 7, 7), ("call", "b", 7, 7),
            ("call", "b", 7, 7), ("call", "c", 7, 7), END))

    def test_one_node_for_each_outcome(self):
        program = (("if", A, (STOP,), (("if", B, (STOP,), (("for", None, ()),)),)), ("stop", "return 3"))
        self.check(program, (
            ("call", "a", 2, 1), ("call", "b", 2, 3), ("outcome", "return"), ("outcome", "hang")))
        program = (("if", A, (("for", None, ()),), (("while", None, ("not", ("and", (("flag", 0), B))), ()),)),)
        self.check(program, (("call", "a", 1, 1), ("outcome", "hang")))

    def test_programs_of_a_maker(self):
        compared = 0
        for seed in range(700):
            program = ResolvedMaker(seed, seed % 4).body(4)
            expected = plain_explored(program)
            if expected is not None and raised(explored, program) is None:
                self.assertEqual(explored(program), expected, program)
                compared += 1
        self.assertGreater(compared, 500)


class WeightTest(unittest.TestCase):
    """Point [92]."""

    def check(self, resolved, count):
        error = raised(explored, resolved)
        if count is None:
            self.assertIsNone(error)
        else:
            self.assertIs(error.__class__, TooManyConfigurations)
            self.assertEqual(error.count, count)

    def test_calls(self):
        self.check((A,) * 500, None)
        self.check((A,) * 501, 501)
        self.check((A,) * 125 + (("set", 1, True),), None)
        self.check((A,) * 126 + (("set", 1, True),), 504)
        self.assertEqual(len(explored((A,) * 199)), 200)

    def test_flags(self):
        for flag, most in ((0, 250), (1, 125), (2, 62), (3, 31)):
            for use in (("set", flag, False), ("if", ("flag", flag), (), ()), ("while", None, ("flag", flag), ())):
                self.check((use,) + (A,) * most, None)
                self.check((A,) * (most + 1) + (use,), (most + 1) * 2 ** (flag + 1))

    def test_numbers_of_flags_that_are_left_out(self):
        self.check((A,) * 31 + (("set", 3, True),), None)
        self.check((A,) * 32 + (("set", 3, True),), 512)
        self.check((A,) * 32 + (("set", 0, True), ("set", 2, True)), None)
        self.check((("if", ("not", ("or", (("flag", 1), ("and", (A, ("not", ("flag", 3))))))), (), ()),) + (A,) * 31,
                   512)

    def test_calls_in_conditions(self):
        condition = ("and", (A, ("not", ("or", (B, ("not", C), A)))))
        self.check((("if", condition, (), ()), ("while", None, condition, ())) * 62, None)
        self.check((("if", condition, (), ()), ("while", None, condition, (A,))) * 62, 8 * 62 + 62)
        self.check((("if", condition, (A,), (A, ("for", None, (A,)))),) * 72, 504)

    def test_calls_that_are_not_reached_count(self):
        self.check((STOP,) + (A,) * 501, 501)
        self.check((("set", 0, False), ("while", None, ("flag", 0), (A,) * 251)), 502)

    def test_jumps_do_not_count_without_try(self):
        self.check((("for", None, (A, ("break", 1), ("continue", 1), STOP)),) * 40, None)
        self.check((A,) * 501 + (STOP,), 501)

    def test_jumps_with_try(self):
        empty = ("try", (), ())
        self.check((empty,) + (A,) * 500, None)
        self.check((empty,) + (A,) * 501, 501)
        self.check((empty, STOP) + (A,) * 250, None)
        self.check((empty, STOP) + (A,) * 251, 502)
        jumps = ("for", None, (("break", 1), ("continue", 1), STOP, ("stop", "break x")))
        self.check((jumps, empty) + (A,) * 100, None)
        self.check((jumps, empty) + (A,) * 101, 505)
        self.check((("try", (jumps,), (("if", B, (STOP,), ()),)),) + (A,) * 83, 504)
        self.check((("for", None, (("if", A, (empty,), ()), ("break", 1))),) + (B,) * 250, 502)

    def test_flags_and_jumps_with_try(self):
        program = (("try", (STOP, STOP, ("set", 2, True)), ()),)
        self.check(program + (A,) * 20, None)
        self.check(program + (A,) * 21, 504)
        self.check((("try", (STOP,) * 4, (("set", 3, True),)),) + (A,) * 7, 7 * 16 * 5)

    def test_no_calls_weigh_nothing(self):
        self.check((("set", 3, True), ("try", (STOP,) * 100, ())), None)


if __name__ == "__main__":
    unittest.main()
