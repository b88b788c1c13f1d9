import unittest

from flowform.errors import FlagTwice, OutsideOfLoop, TooManyFlags, TryInFinally, UnknownFlag
from flowform.names import jump_depth, resolve
from flowform.paths import statement_at, walk
from tests.helpers import A, B, C, Maker, nested, raised

F = ("flag", "f")
G = ("flag", "g")
LET_F = ("let", "f", True)
LET_G = ("let", "g", False)
SET_F = ("set", "f", False)


def use(flag):
    return ("if", ("flag", flag), (A,), ())


class FlagsTest(unittest.TestCase):
    """Points [51], [52], [54] and [56]."""

    def test_example(self):
        program = (LET_F, ("while", "x", F, (
            ("block", (SET_F, LET_F)), ("if", A, (("continue", "y"),), (("continue", "x"),)))))
        self.assertEqual(resolve(program), (("set", 0, True), ("while", None, ("flag", 0), (
            ("set", 0, False), ("set", 1, True),
            ("if", A, (("stop", "continue y"),), (("continue", 1),))))))

    def test_one_flag(self):
        self.assertEqual(resolve((LET_F, SET_F, use("f"))), (("set", 0, True), ("set", 0, False), use(0)))
        self.assertEqual(resolve((("let", "f", False), ("set", "f", True))), (("set", 0, False), ("set", 0, True)))

    def test_numbers_in_the_order_of_the_program(self):
        program = (("if", A, (LET_F,), (LET_G,)), ("try", (LET_F, SET_F), (LET_G, ("set", "g", True))))
        self.assertEqual(resolve(program), (
            ("if", A, (("set", 0, True),), (("set", 1, False),)),
            ("try", (("set", 2, True), ("set", 2, False)), (("set", 3, False), ("set", 3, True)))))

    def test_hidden_only_behind_the_inner_declaration(self):
        inner = (SET_F, use("f"), LET_F, SET_F, use("f"))
        resolved = (("set", 0, False), use(0), ("set", 1, True), ("set", 1, False), use(1))
        for before, after in (
            (("for", "x", inner), ("for", None, resolved)),
            (("while", None, F, inner), ("while", None, ("flag", 0), resolved)),
            (("if", F, inner, ()), ("if", ("flag", 0), resolved, ())),
            (("if", F, (), inner), ("if", ("flag", 0), (), resolved)),
            (("try", inner, ()), ("try", resolved, ())),
            (("try", (), inner), ("try", (), resolved)),
        ):
            ends = (("set", 0, True),), (("set", 0, False), use(0))
            self.assertEqual(resolve((LET_F, before, SET_F, use("f"))), ends[0] + (after,) + ends[1])
        dissolved = (("set", 0, True),) + resolved + (("set", 0, False),)
        self.assertEqual(resolve((LET_F, ("block", inner), SET_F)), dissolved)

    def test_visible_inside_of_the_statements_behind(self):
        deep = nested(7, (SET_F,))
        resolved = resolve((LET_F,) + deep)
        self.assertEqual([s for _, s in walk(resolved) if s[0] == "set"], [("set", 0, True), ("set", 0, False)])
        program = (LET_F, ("for", None, (("if", F, (), (("try", (), (SET_F,)),)),)))
        self.assertEqual(resolve(program)[1][2][0], ("if", ("flag", 0), (), (("try", (), (("set", 0, False),)),)))

    def test_hidden_several_times(self):
        program = (LET_F, ("for", None, (LET_F, ("for", None, (SET_F, LET_F, SET_F)), SET_F)), SET_F)
        self.assertEqual([s[1] for _, s in walk(resolve(program)) if s[0] == "set"], [0, 1, 1, 2, 2, 1, 0])

    def test_conditions(self):
        condition = ("or", (F, ("and", (A, ("not", G), F)), ("not", ("or", (G, ("call", "f"))))))
        number = {"f": ("flag", 0), "g": ("flag", 1)}
        expected = ("or", (number["f"], ("and", (A, ("not", number["g"]), number["f"])),
                           ("not", ("or", (number["g"], ("call", "f"))))))
        for loop in (("if", condition, (), ()), ("while", None, condition, ())):
            resolved = resolve((LET_F, LET_G, loop))[2]
            self.assertEqual(resolved[1] if loop[0] == "if" else resolved[2], expected)

    def test_the_three_kinds_of_names_are_separate(self):
        program = (("let", "x", True), ("while", "x", ("and", (("call", "x"), ("flag", "x"))), (
            ("call", "x"), ("break", "x"))))
        self.assertEqual(resolve(program), (("set", 0, True), ("while", None, ("and", (("call", "x"), ("flag", 0))), (
            ("call", "x"), ("break", 1)))))

    def test_unknown_flag(self):
        for program in (
            (SET_F,), (use("f"),), (("while", None, F, ()),), (("while", None, ("not", ("or", (A, F))), ()),),
            (SET_F, LET_F), (use("f"), LET_F), (("block", (LET_F,)), SET_F), (("for", None, (LET_F,)), SET_F),
            (("if", A, (LET_F,), (SET_F,)),), (("if", A, (LET_F,), ()), use("f")), (("if", F, (LET_F,), ()),),
            (("while", None, F, (LET_F,)),), (("try", (LET_F,), (SET_F,)),), (("try", (), (LET_F,)), SET_F),
            (LET_G, ("for", None, (LET_G, SET_F))), (("for", None, (SET_F, LET_F)),),
        ):
            error = raised(resolve, program)
            self.assertIsInstance(error, UnknownFlag, program)
            self.assertEqual(error.name, "f")

    def test_flag_twice(self):
        twice = (LET_F, A, ("let", "f", False))
        for program in (
            twice, (LET_F, ("block", (LET_G,)), LET_F), (("block", twice),), (("for", None, twice),),
            (("if", A, twice, ()),), (("if", A, (), twice),), (("try", twice, ()),), (("try", (), twice),),
            (LET_F, ("block", twice)),
        ):
            error = raised(resolve, program)
            self.assertIsInstance(error, FlagTwice, program)
            self.assertEqual(error.name, "f")

    def test_the_same_name_in_several_bodies_is_not_twice(self):
        program = (LET_F, ("block", (LET_F,)), ("if", A, (LET_F,), (LET_F,)))
        self.assertEqual([s[1] for _, s in walk(resolve(program)) if s[0] == "set"], [0, 1, 2, 3])
        self.assertEqual(resolve((("block", (LET_F,)), LET_F)), (("set", 0, True), ("set", 1, True)))


class JumpsTest(unittest.TestCase):
    """Points [53] to [56]."""

    def check(self, program, expected):
        self.assertEqual([s for _, s in walk(resolve(program)) if s[0] in ("break", "continue", "stop")], expected)

    def test_without_label(self):
        for word in ("break", "continue"):
            jump = (word, None)
            self.check((("for", "x", (jump, ("while", None, A, (jump,)), jump)),), [(word, 1)] * 3)
            self.check((("for", None, (("try", (jump,), (jump,)), ("if", A, (jump,), (jump,)))),), [(word, 1)] * 4)

    def test_with_labels(self):
        for word in ("break", "continue"):
            jumps = ((word, "x"), (word, "y"), (word, "z"), (word, None))
            loops = ("for", "x", (("while", "y", A, (("for", None, (("for", "z", jumps),)),)),))
            self.check((loops,), [(word, 4), (word, 3), (word, 1), (word, 1)])
            self.check((("while", None, A, (loops,)),), [(word, 4), (word, 3), (word, 1), (word, 1)])

    def test_the_same_label_for_several_loops(self):
        jump = ("break", "x")
        inside = ("for", "x", (jump, ("for", "x", (jump, ("for", "y", (jump,)))), ("for", None, (jump,))))
        self.check((inside,), [("break", 1), ("break", 1), ("break", 2), ("break", 2)])
        self.check((("for", "x", (jump,)), ("for", "x", (jump,)), jump), [("break", 1)] * 2 + [("stop", "break x")])

    def test_labels_outside(self):
        self.check((("while", "x", A, (B,)), ("break", "x")), [("stop", "break x")])
        self.check((("continue", "a"), ("for", None, (("continue", "a"),))), [("stop", "continue a")] * 2)
        self.check((("for", "y", (("break", "x"), ("continue", "y"))),), [("stop", "break x"), ("continue", 1)])
        self.check((("block", (("break", "x"),)), ("if", A, (("continue", "end"),), ())), [
            ("stop", "break x"), ("stop", "continue end")])

    def test_loops_lose_their_labels(self):
        program = (("for", "x", (("while", "y", A, ()),)), ("while", "x", B, ()))
        self.assertEqual(resolve(program), (("for", None, (("while", None, A, ()),)), ("while", None, B, ())))

    def test_returns(self):
        numbers = (None, 0, 7, 10, 99)
        outcomes = ["return", "return 0", "return 7", "return 10", "return 99"]
        program = tuple(("return", number) for number in numbers)
        self.check(program, [("stop", outcome) for outcome in outcomes])
        self.check((("for", None, program),), [("stop", outcome) for outcome in outcomes])

    def test_outside_of_loop(self):
        for word in ("break", "continue"):
            jump = (word, None)
            for program in (
                (jump,), (("for", "x", ()), jump), (("if", A, (jump,), ()),), (("if", A, (), (jump,)),),
                (("block", (jump,)),), (("try", (jump,), ()),), (("try", (), (jump,)),), (("while", None, A, ()), jump),
            ):
                error = raised(resolve, program)
                self.assertIsInstance(error, OutsideOfLoop, program)
                self.assertEqual(error.word, word)

    def test_jump_depth(self):
        deep = ("for", None, (("if", A, (), (("for", None, (("break", 3),)),)),))
        for resolved, expected in (
            ((), 0), ((A, ("for", None, ())), 0), ((("stop", "break x"), ("stop", "return 7")), 0),
            ((("for", None, (("break", 1), ("stop", "continue x"))),), 1),
            ((("for", None, (("for", None, (("continue", 2), ("break", 1))),)),), 2),
            ((("for", None, (("try", (), (deep,)),)),), 3),
            (resolve((("for", "x", (("while", "y", A, (("if", A, (), (("break", "x"),)),)),)),)), 2),
        ):
            self.assertEqual(jump_depth(resolved), expected)


class BlocksTest(unittest.TestCase):
    """The block statements of point [54]."""

    def test_dissolved(self):
        for before, after in (
            ((("block", ()),), ()), ((("block", (("block", ()), ("block", (("block", ()),)))),), ()),
            ((A, ("block", (B, ("block", (C,)), A)), B), (A, B, C, A, B)),
            ((("if", A, (("block", ()),), (("block", (B,)),)),), (("if", A, (), (B,)),)),
            ((("for", "x", (("block", (("break", None),)),)),), (("for", None, (("break", 1),)),)),
            ((("try", (("block", (A,)),), (("block", ()), B)),), (("try", (A,), (B,)),)),
        ):
            self.assertEqual(resolve(before), after)

    def test_empty_program(self):
        self.assertEqual(resolve(()), ())


class ErrorOrderTest(unittest.TestCase):
    """The order of the errors in point [54]."""

    def check(self, program, error, value):
        found = raised(resolve, program)
        self.assertIs(found.__class__, error, program)
        self.assertIn(value, vars(found).values())

    def test_first_in_the_program(self):
        jump = ("continue", None)
        self.check((("block", (LET_F,)), ("break", None), SET_F), OutsideOfLoop, "break")
        self.check((("block", (LET_F,)), SET_F, ("break", None)), UnknownFlag, "f")
        self.check((LET_F, LET_F, jump, ("set", "g", True)), FlagTwice, "f")
        self.check((LET_F, jump, LET_F), OutsideOfLoop, "continue")
        self.check((LET_F, use("g"), LET_F), UnknownFlag, "g")
        self.check((("if", F, (jump,), (("set", "g", True),)),), UnknownFlag, "f")
        self.check((("if", A, (jump,), (SET_F,)),), OutsideOfLoop, "continue")
        self.check((("if", A, (SET_F,), (jump,)),), UnknownFlag, "f")
        self.check((("while", None, F, (("set", "g", True),)),), UnknownFlag, "f")
        self.check((("try", (SET_F,), (jump,)),), UnknownFlag, "f")
        self.check((("try", (jump,), (SET_F,)),), OutsideOfLoop, "continue")
        self.check((("if", ("and", (A, ("not", G), F)), (), ()),), UnknownFlag, "g")
        self.check((("for", None, (LET_F, ("block", (LET_G, LET_G)), LET_F)),), FlagTwice, "g")

    def test_number_of_declarations(self):
        four = tuple(("let", name, True) for name in "abcd")
        self.assertEqual(resolve(four), tuple(("set", number, True) for number in range(4)))
        self.check(four + (("let", "e", False),), TooManyFlags, 5)
        self.check(four + (("block", four), ("for", None, four)), TooManyFlags, 12)
        self.check((("if", A, four, (("let", "a", True),)),), TooManyFlags, 5)

    def test_too_many_flags_behind_the_names(self):
        five = tuple(("let", name, True) for name in "abcde")
        self.check(five + (SET_F,), UnknownFlag, "f")
        self.check(five + (("let", "a", True),), FlagTwice, "a")
        self.check(five + (("break", None),), OutsideOfLoop, "break")

    def test_try_in_finally(self):
        inner = ("try", (), ())
        for last in (
            (inner,), (A, ("for", None, (inner,))), (("block", (("if", A, (), (inner,)),)),), nested(10, (inner,)),
            (("while", "x", A, (inner,)),),
        ):
            self.assertIsInstance(raised(resolve, (("try", (), last),)), TryInFinally)
            program = (("for", None, (("try", (("try", (A,), last),), (B,)),)),)
            self.assertIsInstance(raised(resolve, program), TryInFinally)
        self.assertIsInstance(raised(resolve, (("try", (), (("try", (), (inner,)),)),)), TryInFinally)

    def test_try_in_the_body_of_a_try_is_allowed(self):
        program = (("try", (("try", (A,), (B,)), ("for", None, (("try", (), (C,)),))), (C,)), ("try", (), ()))
        self.assertEqual(resolve(program), program)

    def test_try_in_finally_behind_all_others(self):
        wrong = ("try", (), (("try", (), ()),))
        five = tuple(("let", name, True) for name in "abcde")
        self.check((wrong, SET_F), UnknownFlag, "f")
        self.check((wrong, LET_F, LET_F), FlagTwice, "f")
        self.check((wrong, ("break", None)), OutsideOfLoop, "break")
        self.check((wrong,) + five, TooManyFlags, 5)
        self.assertIsInstance(raised(resolve, (wrong,) + five[:4]), TryInFinally)


class MadeProgramsTest(unittest.TestCase):
    """Looks up every name by the paths around it, and compares."""

    def around(self, program, path):
        """Return the paths of the statements around a path, the innermost first."""
        return [path[:length] for length in range(len(path) - 2, 0, -2)]

    def declared_number(self, program, path, name):
        lets = [other for other, statement in walk(program) if statement[0] == "let"]
        for where in [path] + self.around(program, path):
            for other in lets:
                same_body = other[:-1] == where[:-1] and other[-1] < where[-1]
                if same_body and statement_at(program, other)[1] == name:
                    return lets.index(other)
        return None

    def loops_around(self, program, path):
        statements = [statement_at(program, other) for other in self.around(program, path)]
        return [statement[1] for statement in statements if statement[0] in ("for", "while")]

    def flags_in(self, condition):
        if condition[0] == "flag":
            return [condition[1]]
        if condition[0] == "call":
            return []
        parts = (condition[1],) if condition[0] == "not" else condition[1]
        return [name for part in parts for name in self.flags_in(part)]

    def names_in(self, statement):
        if statement[0] == "set":
            return [statement[1]]
        if statement[0] in ("if", "while"):
            return self.flags_in(statement[1] if statement[0] == "if" else statement[2])
        return []

    def expected(self, program):
        """Return the first error as a pair, or the numbers of the flags and the jumps in order."""
        flags, jumps, lets = [], [], 0
        for path, statement in walk(program):
            for name in self.names_in(statement):
                flags.append(self.declared_number(program, path, name))
                if flags[-1] is None:
                    return (UnknownFlag, name)
            if statement[0] == "let":
                body = [other for other, _ in walk(program) if other[:-1] == path[:-1] and other < path]
                if any(statement_at(program, other)[:2] == statement[:2] for other in body):
                    return (FlagTwice, statement[1])
                flags.append(lets)
                lets += 1
            if statement[0] in ("break", "continue"):
                loops = self.loops_around(program, path)
                if statement[1] is None and not loops:
                    return (OutsideOfLoop, statement[0])
                jumps.append(self.expected_jump(statement, loops))
        return (TooManyFlags, lets) if lets > 4 else (flags, jumps)

    def expected_jump(self, statement, loops):
        word, label = statement
        if label is not None and label not in loops:
            return ("stop", word + " " + label)
        return (word, 1 if label is None else 1 + loops.index(label))

    def found(self, program):
        try:
            resolved = resolve(program)
        except TryInFinally:
            return None
        except ValueError as error:
            return (error.__class__, list(vars(error).values())[0])
        flags, jumps = [], []
        for _, statement in walk(resolved):
            flags += self.names_in(statement)
            returned = statement[0] == "stop" and statement[1].startswith("return")
            if statement[0] in ("break", "continue", "stop") and not returned:
                jumps.append(statement)
        return (flags, jumps)

    def test_made_programs(self):
        kinds = {}
        for seed in range(1500):
            maker = Maker(seed, ("f", "g"))
            program = (LET_F,) * maker.random.randint(0, 1) + (LET_G,) * maker.random.randint(0, 1) + maker.body(3, 4)
            found = self.found(program)
            if found is not None:
                self.assertEqual(found, self.expected(program), program)
                kinds[str(found[0])[:20]] = True
        self.assertGreater(len(kinds), 20)


if __name__ == "__main__":
    unittest.main()
