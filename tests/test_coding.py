import random
import unittest

from flowform.coding import code_graph, run_code
from flowform.errors import TooManyConfigurations, TooManyNodes
from flowform.graphs import minimal, run_graph
from tests.helpers import answers, raised, rows_of_answers

EXAMPLE = (("test", 0, 3, 1), ("call", "a", 2, 0), ("set", 0, True, 0), ("stop", "return 1"))
END = ("outcome", "end")
HANG = ("outcome", "hang")


def plain_run(code, given):
    """Return the events of a run of the code, by steps of single instructions."""
    given = list(given)
    flags = [False] * 4
    events = []
    at = 0
    steps = 0
    while True:
        kind, *rest = code[at]
        steps += 1
        if kind == "stop":
            return tuple(events) + (rest[0],)
        if steps > 16 * len(code):
            return tuple(events) + ("hang",)
        if kind == "call":
            events.append(rest[0] + "()")
            if not given:
                return tuple(events)
            at = rest[1] if given.pop(0) else rest[2]
            steps = 0
        elif kind == "test":
            at = rest[1] if flags[rest[0]] else rest[2]
        elif kind == "set":
            flags[rest[0]] = rest[1]
            at = rest[2]
        else:
            at = rest[0]


def random_code(seed):
    chooser = random.Random(seed)
    many = chooser.randint(1, 12)
    flags = chooser.randint(1, 4)
    code = []
    for _ in range(many):
        first, second, flag = chooser.randrange(many), chooser.randrange(many), chooser.randrange(flags)
        code.append(chooser.choice((
            ("call", chooser.choice("ab"), first, second), ("test", flag, first, second),
            ("set", flag, chooser.random() < 0.5, first), ("jump", first), ("stop", chooser.choice(("end", "return"))),
        )))
    return tuple(code)


def counter(bits, behind):
    """Return code that counts with flags up to their last value before it goes on at the instruction behind."""
    code = []
    for flag in range(bits):
        start = 3 * flag
        on = behind + 3 * bits if flag == bits - 1 else start + 3
        code += [("test", flag, start + 2, start + 1), ("set", flag, True, 0), ("set", flag, False, on)]
    return tuple(code)


class RunsTest(unittest.TestCase):
    """Points [106] and [107]: runs of code."""

    def check(self, code, *cases):
        for letters, expected in cases:
            self.assertEqual(" ".join(run_code(code, answers(letters))), expected, (code, letters))
            self.assertEqual(" ".join(run_graph(code_graph(code), answers(letters))), expected, (code, letters))

    def test_example(self):
        self.assertEqual(run_code(EXAMPLE, (False, True, True)), ("a()", "a()", "return 1"))
        self.assertEqual(code_graph(EXAMPLE), (("call", "a", 1, 0), ("outcome", "return 1")))
        self.assertEqual(code_graph((("jump", 1), ("jump", 0))), (HANG,))

    def test_stop(self):
        for outcome in ("end", "return", "return 12", "break x", "continue x"):
            code = (("stop", outcome), ("call", "a", 0, 0))
            self.assertEqual(run_code(code, ()), (outcome,))
            self.assertEqual(run_code(code, (True,) * 400), (outcome,))
            self.assertEqual(code_graph(code), (("outcome", outcome),))

    def test_call(self):
        code = (("call", "a", 1, 2), ("call", "end", 0, 2), ("stop", "end"))
        self.check(code, ("", "a()"), ("T", "a() end()"), ("F", "a() end"), ("TTF", "a() end() a() end"))
        self.assertEqual(run_code(code, (True,) * 400), ("a()", "end()") * 200 + ("a()",))

    def test_test_and_set(self):
        for flag in range(4):
            code = (("test", flag, 3, 1), ("call", "a", 2, 5), ("set", flag, True, 0), ("call", "b", 4, 0),
                    ("set", flag, False, 0), ("stop", "end"))
            self.check(code, ("", "a()"), ("TF", "a() b() b()"), ("TFTF", "a() b() b() a() end"), ("F", "a() end"))

    def test_flags_are_apart_from_each_other(self):
        code = (("call", "a", 1, 2), ("set", 0, True, 3), ("set", 1, True, 3), ("test", 0, 4, 5),
                ("test", 1, 6, 7), ("test", 1, 8, 9), ("stop", "return 3"), ("stop", "return 1"), ("stop", "return 2"),
                ("stop", "return 0"))
        self.check(code, ("T", "a() return 1"), ("F", "a() return 2"))
        code = (("set", 2, True, 1), ("set", 3, True, 2), ("set", 2, False, 3), ("test", 3, 4, 5), ("test", 2, 5, 6),
                ("stop", "return"), ("stop", "end"))
        self.check(code, ("", "end"))

    def test_setting_a_flag_twice(self):
        for value in (True, False):
            code = (("set", 1, value, 1), ("set", 1, value, 2), ("test", 1, 3, 4), ("stop", "return 1"),
                    ("stop", "return 0"))
            self.check(code, ("", "return 1" if value else "return 0"))

    def test_jump(self):
        self.check((("jump", 2), ("stop", "end"), ("jump", 3), ("call", "a", 1, 0)), ("F", "a() a()"), ("T", "a() end"))

    def test_round_without_a_call(self):
        for code in ((("jump", 0),), (("test", 0, 0, 0),), (("set", 0, True, 0),), (("set", 3, False, 1), ("jump", 0)),
                     (("set", 0, True, 1), ("test", 0, 0, 2), ("stop", "end")),
                     (("test", 0, 1, 2), ("set", 0, False, 0), ("set", 0, True, 0))):
            self.check(code, ("", "hang"), ("TF", "hang"))
        self.check((("call", "a", 1, 2), ("jump", 1), ("stop", "end")), ("T", "a() hang"), ("F", "a() end"))

    def test_many_rounds_of_flags(self):
        for bits in range(1, 5):
            ends = counter(bits, 0) + (("call", "a", 3 * bits + 1, 0), ("stop", "return"))
            self.check(ends, ("", "a()"), ("T", "a() return"), ("FT", "a() a() return"))
            stops = counter(bits, 0) + (("stop", "end"),)
            self.check(stops, ("", "end"))
            forever = counter(bits, 0) + (("jump", 0),)
            self.check(forever, ("", "hang"))
            once_more = counter(bits, 0) + (("call", "a", 0, 0),)
            self.assertEqual(code_graph(once_more), (("call", "a", 0, 0),))

    def test_answers_behind_the_end(self):
        for row in rows_of_answers(3):
            self.assertEqual(run_code(EXAMPLE, (True,) + row), ("a()", "return 1"))
        self.assertIsInstance(run_code(EXAMPLE, ()), tuple)

    def test_many_instructions(self):
        code = tuple(("jump", number + 1) for number in range(298)) + (("call", "a", 299, 0), ("stop", "end"))
        self.check(code, ("FT", "a() a() end"))

    def test_random_code(self):
        for seed in range(600):
            code = random_code(seed)
            for row in rows_of_answers(4)[-16:]:
                self.assertEqual(run_code(code, row), plain_run(code, row), code)


class GraphsTest(unittest.TestCase):
    """Point [107]: the minimal flow graph of code, and its two errors."""

    def test_order_of_the_nodes(self):
        code = (("call", "a", 4, 2), ("stop", "end"), ("call", "b", 5, 1), ("call", "c", 1, 1), ("jump", 3),
                ("jump", 6), ("stop", "return"))
        self.assertEqual(code_graph(code), (
            ("call", "a", 1, 2), ("call", "c", 3, 3), ("call", "b", 4, 3), END, ("outcome", "return")))

    def test_equivalent_configurations_become_one_node(self):
        code = (("call", "a", 1, 2), ("set", 0, True, 3), ("jump", 3), ("call", "b", 0, 4), ("stop", "end"))
        self.assertEqual(code_graph(code), (("call", "a", 1, 1), ("call", "b", 0, 2), END))
        code = (("call", "a", 1, 2), ("stop", "return"), ("stop", "return"))
        self.assertEqual(code_graph(code), (("call", "a", 1, 1), ("outcome", "return")))

    def test_random_code(self):
        compared = 0
        for seed in range(600):
            code = random_code(seed)
            if raised(code_graph, code) is None:
                graph = code_graph(code)
                self.assertEqual(minimal(graph), graph)
                for row in rows_of_answers(5)[-32:]:
                    self.assertEqual(run_graph(graph, row), run_code(code, row), code)
                compared += 1
        self.assertGreater(compared, 500)

    def check_error(self, code, error, count):
        found = raised(code_graph, code)
        self.assertIs(found.__class__, error)
        self.assertEqual(found.count, count)

    def test_too_many_configurations(self):
        calls = (("call", "a", 0, 0),)
        for many, more in ((500, ()), (250, (("set", 0, True, 0),)), (125, (("test", 1, 0, 0),)),
                           (62, (("set", 2, False, 0),)), (31, (("test", 3, 0, 0), ("set", 0, True, 0)))):
            factor = 500 // many
            self.assertEqual(code_graph(calls * many + more), (("call", "a", 0, 0),))
            self.check_error(calls * (many + 1) + more, TooManyConfigurations, (many + 1) * factor)
        self.assertEqual(code_graph((("set", 3, True, 1), ("jump", 0))), (HANG,))

    def test_instructions_that_are_not_reached_count(self):
        self.check_error((("stop", "end"),) + (("call", "a", 0, 0),) * 32 + (("set", 3, True, 0),),
                         TooManyConfigurations, 512)
        self.assertEqual(code_graph((("stop", "end"),) + (("call", "a", 0, 0),) * 300), (END,))

    def test_too_many_nodes(self):
        def row(many):
            return tuple(("call", "a", number + 1, number + 1) for number in range(many)) + (("stop", "end"),)

        self.assertEqual(len(code_graph(row(39))), 40)
        self.check_error(row(40), TooManyNodes, 41)
        self.check_error(row(299), TooManyNodes, 300)
        self.assertEqual(len(code_graph((("jump", 1),) + (("call", "a", 1, 1),) * 299)), 1)

    def test_too_many_configurations_come_first(self):
        row = tuple(("call", "a", number + 1, number + 1) for number in range(260)) + (("stop", "end"),)
        self.check_error(row, TooManyNodes, 261)
        self.check_error(row + (("set", 0, True, 0),), TooManyConfigurations, 520)

    def test_nodes_are_counted_in_the_minimal_flow_graph(self):
        twice = []
        for number in range(60):
            twice.append(("call", "a", (number + 1) % 60, (number + 1) % 60))
        self.assertEqual(code_graph(tuple(twice)), (("call", "a", 0, 0),))


if __name__ == "__main__":
    unittest.main()
