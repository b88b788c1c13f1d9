import unittest

from flowform.programs import depths, places, size
from tests.helpers import A, B, C, Maker, nested, nots

F = ("flag", "f")


class SizeTest(unittest.TestCase):
    """Points [40], [41], [43] and [50]."""

    def check(self, *pairs):
        for statement, expected in pairs:
            self.assertEqual(size((statement,)), expected, statement)

    def test_example(self):
        condition = ("or", (("not", A), B))
        self.assertEqual(size((("if", condition, (C,), (("block", ()),)),)), 4)
        self.assertEqual(size((("if", condition, (C,), (("block", (("call", "d"),)),)),)), 6)

    def test_statements(self):
        self.assertEqual(size(()), 0)
        self.check(
            (A, 1), (("let", "f", True), 1), (("set", "f", False), 1),
            (("break", None), 1), (("break", "x"), 1), (("continue", None), 1), (("continue", "x"), 1),
            (("return", None), 1), (("return", 99), 1),
            (("for", None, ()), 1), (("for", "x", (A, B)), 3),
            (("while", None, A, ()), 2), (("while", "x", F, (A,)), 3),
            (("try", (), ()), 2), (("try", (A,), (B, C)), 5),
            (("block", ()), 0), (("block", (A, ("block", (B,)))), 2),
        )

    def test_resolved_statements(self):
        self.check(
            (("set", 3, True), 1), (("break", 2), 1), (("continue", 1), 1),
            (("stop", "return 10"), 1), (("stop", "break x"), 1),
            (("while", None, ("and", (("flag", 0), ("flag", 3))), (("stop", "return"),)), 4),
        )

    def test_conditions(self):
        for condition, expected in (
            (A, 1), (F, 1), (("not", A), 1), (("not", ("not", F)), 1),
            (("and", (A, B)), 2), (("or", (A, F, C)), 3),
            (("not", ("and", (A, ("or", (B, ("not", F)))))), 3),
        ):
            self.assertEqual(size((("while", None, condition, ()),)), 1 + expected)
            self.assertEqual(size((("if", condition, (), ()),)), 1 + expected)

    def test_second_branches(self):
        empty = ("block", ())
        for second, expected in (
            ((), 2), ((empty,), 2), ((empty, empty), 2),
            ((("block", (empty, ("block", (empty,)))),), 2),
            ((A,), 4), ((empty, A), 4), ((("block", (A,)),), 4),
            ((("block", (empty, ("block", (B,)))),), 4),
            ((("for", None, ()),), 4), ((("break", None),), 4), ((("block", (("try", (), ()),)),), 5),
            ((("if", B, (), ()),), 5), ((("if", B, (), (C,)),), 7),
        ):
            self.assertEqual(size((("if", A, (), second),)), expected, second)
            self.assertEqual(size((("if", A, second, ()),)), 2 + size(second), second)

    def test_sum_of_statements_at_all_depths(self):
        self.assertEqual(size((A, ("for", None, (B, ("if", C, (A,), (B, B)))), ("try", (A,), ()))), 12)


class PlacesTest(unittest.TestCase):
    """Points [42], [44] and [50]."""

    def test_empty_program(self):
        self.assertEqual((places(()), depths(())), (0, (0, 0)))

    def test_statements_without_conditions(self):
        for statement in (
            A, ("let", "f", True), ("set", "f", True), ("set", 0, True), ("break", None), ("continue", "x"),
            ("break", 2), ("return", 7), ("stop", "return"), ("for", None, ()), ("try", (), ()), ("block", ()),
        ):
            self.assertEqual((places((statement,)), depths((statement,))), (1, (0, 0)), statement)
            self.assertEqual((places((A, statement)), depths((statement, A))), (2, (0, 0)), statement)

    def test_conditions(self):
        for condition, parts, depth in (
            (A, 1, 0), (F, 1, 0), (("flag", 3), 1, 0), (("not", A), 2, 1), (("and", (A, B, C)), 4, 1),
            (("or", (A, ("and", (B, ("not", C))))), 6, 3),
        ):
            for statement in (("if", condition, (), ()), ("while", None, condition, ())):
                self.assertEqual((places((statement,)), depths((statement,))), (1 + parts, (0, depth)))

    def test_bodies(self):
        for statement, count in (
            (("if", A, (A, A), (A,)), 5), (("while", None, A, (A,)), 3), (("for", None, (A, A)), 3),
            (("try", (A,), (A, A)), 4), (("block", (A,)), 2), (("if", A, (), (A,)), 3), (("try", (), (A,)), 2),
        ):
            self.assertEqual((places((statement,)), depths((statement,))), (count, (1, 0)), statement)

    def test_deepest_condition_in_any_body(self):
        deep = ("if", nots(5), (), ())
        for statement in (
            ("if", A, (deep,), ()), ("if", A, (), (deep,)), ("while", None, A, (deep,)), ("for", None, (deep,)),
            ("try", (deep,), ()), ("try", (), (deep,)), ("block", (deep,)), ("if", nots(5), (A,), ()),
        ):
            self.assertEqual(depths((A, statement, A)), (1, 5), statement)

    def test_deeply_nested(self):
        for depth in (1, 2, 39, 40):
            self.assertEqual(depths(nested(depth)), (depth, 0))
            self.assertEqual(depths((A,) + nested(depth)), (depth, 0))
        for depth in (1, 2, 19, 20):
            self.assertEqual(depths((("while", None, nots(depth), ()),)), (0, depth))
            self.assertEqual(places((("while", None, nots(depth), ()),)), 2 + depth)

    def test_beyond_the_limits_nothing_is_raised(self):
        self.assertEqual(depths(nested(45, (("if", nots(25), (), ()),))), (45, 25))
        self.assertEqual((places((A,) * 230), size((A,) * 230)), (230, 230))

    def test_size_and_places_of_made_programs(self):
        maker = Maker(1)
        for _ in range(200):
            program = maker.body(3)
            text = repr(program)
            calls, flags = text.count("('call'"), text.count("('flag'")
            inner = sum(text.count(f"('{kind}'") for kind in ("not", "and", "or"))
            plain = "let set if while for break continue return".split()
            statements = sum(text.count(f"('{kind}'") for kind in plain)
            tries, blocks = text.count("('try'"), text.count("('block'")
            self.assertEqual(places(program), calls + flags + inner + statements + tries + blocks)
            least = calls + flags + statements + 2 * tries
            self.assertTrue(least <= size(program) <= least + text.count("('if'"))


if __name__ == "__main__":
    unittest.main()
