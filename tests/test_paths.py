import unittest

from flowform.errors import NoStatement, TooLarge
from flowform.paths import replaced, statement_at, walk
from tests.helpers import A, B, C, Maker, nested, nots, raised

EXAMPLE = (("for", None, (("if", A, (B,), (("break", None),)),)),)
RESOLVED = (
    ("while", None, ("flag", 0), (("try", (("set", 0, False), ("break", 1)), (A,)), ("stop", "return 3"))),
    ("if", B, (), (("for", None, ()), C)),
)


class WalkTest(unittest.TestCase):
    """Points [44] and [46]."""

    def test_example(self):
        self.assertEqual(list(walk(EXAMPLE)), [
            ((0,), EXAMPLE[0]), ((0, 0, 0), EXAMPLE[0][2][0]), ((0, 0, 0, 0, 0), B), ((0, 0, 0, 1, 0), ("break", None)),
        ])

    def test_is_a_generator(self):
        one = walk(EXAMPLE)
        self.assertIs(iter(one), one)
        self.assertEqual(next(one), ((0,), EXAMPLE[0]))
        self.assertEqual(list(walk(())), [])

    def test_order_in_each_statement(self):
        for statement, paths in (
            (("if", A, (A, B), (C, A)), [(0, 0, 0), (0, 0, 1), (0, 1, 0), (0, 1, 1)]),
            (("if", A, (), (C,)), [(0, 1, 0)]),
            (("while", "x", A, (A, B)), [(0, 0, 0), (0, 0, 1)]),
            (("for", "x", (A, B)), [(0, 0, 0), (0, 0, 1)]),
            (("try", (A,), (B,)), [(0, 0, 0), (0, 1, 0)]),
            (("block", (A, B)), [(0, 0, 0), (0, 0, 1)]),
            (("let", "f", True), []), (("return", None), []), (A, []),
        ):
            self.assertEqual([path for path, _ in walk((statement, C))], [(0,)] + paths + [(1,)])

    def test_resolved(self):
        self.assertEqual([(path, statement[0]) for path, statement in walk(RESOLVED)], [
            ((0,), "while"), ((0, 0, 0), "try"), ((0, 0, 0, 0, 0), "set"), ((0, 0, 0, 0, 1), "break"),
            ((0, 0, 0, 1, 0), "call"), ((0, 0, 1), "stop"), ((1,), "if"), ((1, 1, 0), "for"), ((1, 1, 1), "call"),
        ])


class StatementAtTest(unittest.TestCase):
    """Points [46] and [47]."""

    def test_paths_that_are_there(self):
        maker = Maker(2)
        programs = [EXAMPLE, RESOLVED, nested(40)] + [maker.body(3) for _ in range(50)]
        for program in programs:
            paths = list(walk(program))
            self.assertEqual([path for path, _ in paths], sorted(path for path, _ in paths))
            for path, statement in paths:
                self.assertIs(statement_at(program, path), statement)

    def test_paths_that_are_not_there(self):
        for path in (
            (), (0, 0), (0, 0, 0, 0), (1,), (10 ** 30,), (0, 0, 1), (0, 0, 10 ** 30), (0, 10 ** 30, 0),
            (0, 1, 0), (0, 2, 0), (0, 0, 0, 2, 0), (0, 0, 0, 1, 1), (0, 0, 0, 0, 0, 0, 0), (0,) * 99, (0,) * 100,
        ):
            self.assertIsNone(statement_at(EXAMPLE, path), path)
            self.assertIsNone(statement_at((), path), path)

    def test_body_numbers_that_the_statement_does_not_have(self):
        for statement in (("while", None, A, (B, B)), ("for", None, (B, B)), ("block", (B, B))):
            self.assertEqual(statement_at((statement,), (0, 0, 1)), B)
            self.assertIsNone(statement_at((statement,), (0, 1, 0)))
            self.assertIsNone(statement_at((statement,), (0, 1, 1)))
        for statement in (A, ("let", "f", True), ("break", None), ("return", 0), ("set", 0, True), ("stop", "return")):
            self.assertIsNone(statement_at((statement,), (0, 0, 0)))
            self.assertIsNone(statement_at((statement,), (0, 1, 0)))
        self.assertIsNone(statement_at((("if", A, (B,), ()),), (0, 1, 0)))
        self.assertIsNone(statement_at((("try", (), (B,)),), (0, 0, 0)))


class ReplacedTest(unittest.TestCase):
    """Points [42] and [47]."""

    def test_none_one_and_several(self):
        program = (A, ("if", A, (A, B), (C,)), B)
        self.assertEqual(replaced(program, (0,), ()), program[1:])
        self.assertEqual(replaced(program, (2,), (C,)), program[:2] + (C,))
        self.assertEqual(replaced(program, (1,), (C, C)), (A, C, C, B))
        self.assertEqual(replaced(program, (1, 0, 0), ()), (A, ("if", A, (B,), (C,)), B))
        self.assertEqual(replaced(program, (1, 0, 1), (C, C)), (A, ("if", A, (A, C, C), (C,)), B))
        self.assertEqual(replaced(program, (1, 1, 0), ()), (A, ("if", A, (A, B), ()), B))
        self.assertEqual(replaced((A,), (0,), ()), ())

    def test_each_kind_of_body(self):
        for before, number, after in (
            (("while", "x", B, (A,)), 0, ("while", "x", B, (B, C))), (("for", "x", (A,)), 0, ("for", "x", (B, C))),
            (("try", (A,), (C,)), 0, ("try", (B, C), (C,))), (("try", (A,), (A,)), 1, ("try", (A,), (B, C))),
            (("block", (A,)), 0, ("block", (B, C))), (("if", B, (A,), (A,)), 1, ("if", B, (A,), (B, C))),
            (("if", B, (A,), (A,)), 0, ("if", B, (B, C), (A,))),
        ):
            self.assertEqual(replaced((before,), (0, number, 0), (B, C)), (after,))

    def test_all_depths(self):
        for depth in range(41):
            path = [path for path, statement in walk(nested(depth)) if statement == A][-1]
            self.assertEqual(replaced(nested(depth), path, ()), nested(depth, ()))
            self.assertEqual(replaced(nested(depth), path, (B, C)), nested(depth, (B, C)))

    def test_every_other_path_stays(self):
        maker = Maker(3)
        for _ in range(40):
            program = maker.body(3)
            mark = ("call", "mark")
            for path, _ in walk(program):
                result = replaced(program, path, (mark,))
                self.assertIs(statement_at(result, path), mark)
                for other, statement in walk(program):
                    if other[:len(path)] != path and path[:len(other)] != other:
                        self.assertEqual(statement_at(result, other), statement)

    def test_no_statement(self):
        for path in ((), (1,), (0, 0), (0, 1, 0), (0, 0, 1), (0,) * 100, (10 ** 20,)):
            self.assertIsInstance(raised(replaced, EXAMPLE, path, (A,)), NoStatement)
        self.assertIsInstance(raised(replaced, (), (0,), ()), NoStatement)

    def test_places(self):
        program = (A,) * 199
        self.assertEqual(len(replaced(program, (198,), (A, A))), 200)
        self.assertIsInstance(raised(replaced, program, (0,), (A, A, A)), TooLarge)
        inside = (("if", A, (A,), (A,) * 195),)
        self.assertEqual(replaced(inside, (0, 0, 0), (A, A, A))[0][2], (A, A, A))
        self.assertIsInstance(raised(replaced, inside, (0, 0, 0), (A,) * 4), TooLarge)
        looped = ("while", None, ("not", A), ())
        self.assertEqual(len(replaced((A,) * 198, (0,), (looped,))), 198)
        self.assertIsInstance(raised(replaced, (A,) * 199, (0,), (looped,)), TooLarge)

    def test_statement_depth(self):
        path = [path for path, _ in walk(nested(39))][-1]
        self.assertEqual(replaced(nested(39), path, (("for", None, (A,)),)), nested(39, (("for", None, (A,)),)))
        for loop in (("for", None, (("block", (A,)),)), ("for", None, (("block", (("block", ()),)),))):
            self.assertIsInstance(raised(replaced, nested(39), path, (loop,)), TooLarge)
        self.assertEqual(replaced((A,), (0,), nested(40)), nested(40))
        self.assertIsInstance(raised(replaced, (A,), (0,), nested(41)), TooLarge)

    def test_condition_depth(self):
        for depth, error in ((20, type(None)), (21, TooLarge)):
            for statement in (("if", nots(depth), (), ()), ("while", None, nots(depth), ())):
                for path in ((0,), (1, 0, 0)):
                    result = raised(replaced, (A, ("for", None, (A,))), path, (statement,))
                    self.assertIsInstance(result, error)

    def test_no_statement_comes_before_too_large(self):
        self.assertIsInstance(raised(replaced, (A,) * 200, (200,), (A,) * 5), NoStatement)
        self.assertIsInstance(raised(replaced, (A,), (), nested(41)), NoStatement)

    def test_removing_can_make_a_program_small_enough(self):
        deep = ("if", nots(21), (), ())
        self.assertEqual(replaced((A, deep), (1,), ()), (A,))

    def test_resolved(self):
        self.assertEqual(replaced(RESOLVED, (0, 0, 0, 1, 0), (("stop", "return"),))[0][3][0][2], (("stop", "return"),))
        self.assertEqual(replaced(RESOLVED, (1, 1, 0), ()), RESOLVED[:1] + (("if", B, (), (C,)),))


if __name__ == "__main__":
    unittest.main()
