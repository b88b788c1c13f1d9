import unittest

from flowform.comparing import compare
from flowform.graphs import minimal
from flowform.stores import experiment, observe
from tests.helpers import all_graphs, random_graph

END = ("outcome", "end")
HANG = ("outcome", "hang")
RETURN = ("outcome", "return 4")
ONE = (("call", "a", 1, 1), ("call", "b", 2, 2), END)
TWO = (("call", "a", 1, 1), HANG)
# The call of down counts the store down to 0, where it answers False; that of stay changes nothing.
DOWN = ((0, False),) + tuple((store, True) for store in range(249))
STAY = tuple((store, store % 2 == 0) for store in range(250))
MEANING = (("down", DOWN), ("stay", STAY))


class ObserveTest(unittest.TestCase):
    """Points [120] and [121]."""

    def check(self, graph, store, most, expected, meaning=MEANING):
        self.assertEqual(observe(graph, meaning, store, most=most), expected)

    def test_examples(self):
        meaning = experiment(ONE, TWO)[0]
        self.check(ONE, 0, 2, (2, "end"), meaning)
        self.check(TWO, 0, 2, (1, None), meaning)
        self.check(ONE, 0, 1, (1, None), meaning)

    def test_calls_that_change_the_store(self):
        graph = (("call", "down", 0, 1), END)
        self.check(graph, 0, 1, (0, "end"))
        self.check(graph, 7, 8, (0, "end"))
        self.check(graph, 7, 400, (0, "end"))
        self.check(graph, 249, 250, (0, "end"))
        self.check(graph, 249, 249, (0, None))
        self.check(graph, 249, 100, (149, None))

    def test_calls_that_leave_the_store(self):
        graph = (("call", "stay", 1, 2), END, RETURN)
        self.check(graph, 12, 1, (12, "end"))
        self.check(graph, 13, 1, (13, "return 4"))
        self.check((("call", "stay", 0, 1), END), 2, 400, (2, None))

    def test_each_call_is_made_on_the_store_that_the_one_before_has_left(self):
        graph = (("call", "down", 1, 4), ("call", "stay", 2, 3), END, RETURN, ("outcome", "break x"))
        self.check(graph, 3, 2, (2, "end"))
        self.check(graph, 4, 2, (3, "return 4"))
        self.check(graph, 0, 2, (0, "break x"))

    def test_no_calls(self):
        self.check((("call", "down", 0, 1), END), 5, 0, (5, None))
        self.check((END,), 5, 0, (5, "end"))
        self.check((RETURN, END), 0, 0, (0, "return 4"))
        self.check((HANG,), 5, 0, (5, None))

    def test_as_many_calls_as_are_needed_and_one_less(self):
        graph = tuple(("call", "down", number + 1, number + 1) for number in range(10)) + (END,)
        self.check(graph, 200, 10, (190, "end"))
        self.check(graph, 200, 9, (191, None))
        self.check(graph, 200, 11, (190, "end"))
        self.check(graph, 200, 400, (190, "end"))

    def test_many_calls(self):
        self.check((("call", "stay", 0, 0),), 9, 400, (9, None))
        graph = (("call", "down", 0, 1), ("call", "stay", 1, 1))
        self.check(graph, 249, 400, (0, None))
        graph = (("call", "x", 0, 0),)
        turning = (("x", tuple(((store + 1) % 7, True) for store in range(7))),)
        self.check(graph, 0, 400, (400 % 7, None), turning)

    def test_runs_that_hang(self):
        graph = (("call", "down", 0, 1), HANG)
        self.check(graph, 3, 4, (0, None))
        self.check(graph, 3, 3, (0, None))
        self.check(graph, 3, 400, (0, None))

    def test_calls_named_like_outcomes(self):
        meaning = (("end", ((0, True),)), ("hang", ((0, False),)))
        self.check((("call", "hang", 1, 1), ("call", "end", 2, 2), END), 0, 2, (0, "end"), meaning)
        self.check((("call", "end", 1, 1), END), 0, 0, (0, None), meaning)

    def test_names_that_the_graph_does_not_have(self):
        meaning = (("a", ((0, False), (0, False))), ("down", ((0, False), (0, True))), ("z", ((1, True), (1, True))))
        self.check((("call", "down", 0, 1), END), 1, 2, (0, "end"), meaning)

    def test_one_store(self):
        self.check((("call", "x", 1, 0), END), 0, 1, (0, "end"), (("x", ((0, True),)),))
        self.check((("call", "x", 1, 0), END), 0, 400, (0, None), (("x", ((0, False),)),))

    def test_empty_meaning(self):
        for store in (0, 1, 250, 10 ** 20):
            self.check((END,), store, 0, (store, "end"), ())
            self.check((RETURN,), store, 400, (store, "return 4"), ())
            self.check((HANG,), store, 3, (store, None), ())


class ExperimentTest(unittest.TestCase):
    """Points [122] and [123]."""

    def check_form(self, first, second):
        meaning, store, most = experiment(first, second)
        answers, _, told, _ = compare(first, second)
        many = len(answers)
        names = sorted({node[1] for node in first + second if node[0] == "call"})
        self.assertEqual([name for name, _ in meaning], names)
        self.assertEqual((store, most), (0, many + 1))
        for name, table in meaning:
            behind = many + 1 if told == name + "()" else many + 2
            expected = [(number + 1, answers[number]) for number in range(many)]
            self.assertEqual(table, tuple(expected) + ((behind, True), (many + 1, True), (many + 2, True)))
        one = observe(first, meaning, store, most=most)
        self.assertNotEqual(one, observe(second, meaning, store, most=most))

    def test_examples(self):
        self.assertEqual(experiment(ONE, TWO), (
            (("a", ((1, True), (3, True), (2, True), (3, True))), ("b", ((1, True), (2, True), (2, True), (3, True)))),
            0, 2))

    def test_equivalent_graphs(self):
        self.assertIsNone(experiment(ONE, ONE))
        self.assertIsNone(experiment(ONE, (("call", "a", 2, 3), END, ("call", "b", 4, 1), ("call", "b", 1, 4), END)))
        self.assertIsNone(experiment((END,), (END, HANG)))

    def test_a_difference_after_no_answers(self):
        self.assertEqual(experiment((END,), (HANG,)), ((), 0, 1))
        self.assertEqual(experiment((("call", "b", 0, 0),), (("call", "a", 0, 0),)), (
            (("a", ((2, True), (1, True), (2, True))), ("b", ((1, True), (1, True), (2, True)))), 0, 1))
        self.assertEqual(experiment((END,), (("call", "a", 0, 0),)), (
            (("a", ((2, True), (1, True), (2, True))),), 0, 1))
        for first, second in (((END,), (HANG,)), ((("call", "b", 0, 0),), (END,)), ((HANG,), (("call", "b", 0, 0),)),
                              ((END,), (RETURN,)), ((END,), (("call", "end", 0, 0),))):
            self.check_form(first, second)

    def test_a_difference_after_several_answers(self):
        first = (("call", "a", 1, 0), ("call", "b", 0, 2), ("call", "c", 3, 3), END)
        second = (("call", "a", 1, 0), ("call", "b", 0, 2), ("call", "c", 3, 3), RETURN)
        self.assertEqual(experiment(first, second), (tuple(
            (name, ((1, True), (2, False), (3, True), (5, True), (4, True), (5, True))) for name in "abc"), 0, 4))
        self.check_form(first, second)

    def test_names_that_are_not_reached(self):
        first = (END, ("call", "y", 0, 0))
        second = (RETURN, ("call", "x", 0, 0), ("call", "B", 0, 0))
        meaning = experiment(first, second)[0]
        self.assertEqual([name for name, _ in meaning], ["B", "x", "y"])
        self.check_form(first, second)

    def test_ends_against_hang(self):
        first = (("call", "a", 1, 1), END)
        second = (("call", "a", 1, 1), HANG)
        meaning, store, most = experiment(first, second)
        self.assertEqual(observe(first, meaning, store, most=most), (1, "end"))
        self.assertEqual(observe(second, meaning, store, most=most), (1, None))

    def test_long_experiments(self):
        first = tuple(("call", "a", number + 1, number + 1) for number in range(99)) + (END,)
        second = first[:-1] + (HANG,)
        self.check_form(first, second)
        self.assertEqual(len(experiment(first, second)[0][0][1]), 102)

    def test_all_small_graphs(self):
        graphs = all_graphs(2, "ab", ("end", "hang"))
        for first in graphs[::3]:
            for second in graphs[::2]:
                if minimal(first) == minimal(second):
                    self.assertIsNone(experiment(first, second))
                else:
                    self.check_form(first, second)

    def test_random_graphs(self):
        for seed in range(300):
            first = random_graph(seed, 6, "ab")
            second = random_graph(seed + 700, 6, "ab")
            if minimal(first) != minimal(second):
                self.check_form(first, second)


if __name__ == "__main__":
    unittest.main()
