import unittest

from flowform.graphs import classes, event, minimal, rooted, run_graph
from tests.helpers import all_graphs, answers, plain_classes, random_graph, rows_of_answers

END = ("outcome", "end")
HANG = ("outcome", "hang")
RETURN = ("outcome", "return 7")
EXAMPLE = (("call", "a", 1, 2), ("call", "b", 3, 4), ("call", "b", 3, 0), END, ("call", "a", 2, 1), ("call", "c", 5, 5))
WORK = (("call", "ready", 1, 2), ("call", "work", 0, 0), END)


def chain(length, last, loop=None):
    """Return a row of calls of a; behind the last one comes an outcome, after False already in front of it if asked."""
    calls = [("call", "a", number + 1, number + 1 if loop is None else loop) for number in range(length)]
    return tuple(calls) + (last,)


class RunsTest(unittest.TestCase):
    """Points [100] and [101]."""

    def test_no_answers(self):
        self.assertEqual(run_graph(WORK, ()), ("ready()",))
        self.assertEqual(event(WORK, ()), "ready()")

    def test_answers(self):
        for letters, expected in (("T", "ready() work()"), ("F", "ready() end"), ("TT", "ready() work() ready()"),
                                  ("TF", "ready() work() ready()"), ("TFF", "ready() work() ready() end")):
            row = answers(letters)
            self.assertEqual(run_graph(WORK, row), tuple(expected.split()))
            self.assertEqual(event(WORK, row), expected.split()[-1])
        self.assertIsInstance(run_graph(WORK, (True,)), tuple)

    def test_answers_behind_the_end(self):
        for more in rows_of_answers(3):
            self.assertEqual(run_graph(WORK, (False,) + more), ("ready()", "end"))
            self.assertEqual(event(WORK, (False,) + more), "end")

    def test_many_answers(self):
        self.assertEqual(run_graph(WORK, (True,) * 400), ("ready()", "work()") * 200 + ("ready()",))
        self.assertEqual(event(WORK, (True,) * 399), "work()")
        self.assertEqual(event(WORK, (False,) * 400), "end")
        self.assertEqual(len(run_graph(chain(400, END), (True,) * 400)), 401)
        self.assertEqual(event(chain(400, END), (True,) * 400), "end")
        self.assertEqual(event(chain(400, END), (True,) * 399), "a()")

    def test_one_outcome(self):
        for outcome in ("end", "return", "return 0", "break x", "continue x", "hang"):
            for row in ((), (True,), (False, True)):
                self.assertEqual(run_graph((("outcome", outcome),), row), (outcome,))
                self.assertEqual(event((("outcome", outcome),), row), outcome)

    def test_nodes_that_are_not_reached(self):
        graph = (("call", "a", 2, 0), HANG, END, ("call", "b", 1, 3))
        self.assertEqual(run_graph(graph, answers("FFT")), ("a()", "a()", "a()", "end"))
        self.assertEqual(event(graph, answers("FFTTF")), "end")

    def test_calls_named_like_outcomes(self):
        graph = (("call", "end", 1, 2), ("call", "hang", 2, 2), END)
        self.assertEqual(run_graph(graph, answers("TTT")), ("end()", "hang()", "end"))
        self.assertEqual(event(graph, answers("T")), "hang()")


class ClassesTest(unittest.TestCase):
    """Point [102]."""

    def test_example(self):
        self.assertEqual(classes(EXAMPLE), ((0, 4), (1, 2), (3,), (5,)))

    def test_one_node(self):
        self.assertEqual(classes((END,)), ((0,),))
        self.assertEqual(classes((("call", "a", 0, 0),)), ((0,),))

    def test_outcomes(self):
        self.assertEqual(classes((END, HANG, END, ("outcome", "return"), HANG)), ((0, 2), (1, 4), (3,)))

    def test_names_and_kinds(self):
        graph = (("call", "end", 0, 0), END, ("call", "a", 2, 2), ("call", "end", 3, 3), ("call", "a", 2, 2))
        self.assertEqual(classes(graph), ((0, 3), (1,), (2, 4)))

    def test_told_apart_by_one_answer_only(self):
        graph = (("call", "a", 4, 5), ("call", "a", 4, 4), ("call", "a", 5, 4), ("call", "a", 4, 5), END, HANG)
        self.assertEqual(classes(graph), ((0, 3), (1,), (2,), (4,), (5,)))

    def test_equivalent_though_all_nodes_go_round(self):
        graph = (("call", "a", 1, 2), ("call", "a", 2, 0), ("call", "a", 0, 1), ("call", "b", 3, 0))
        self.assertEqual(classes(graph), ((0, 1, 2), (3,)))

    def test_nodes_that_are_not_reached(self):
        graph = (END, ("call", "b", 2, 0), ("call", "b", 1, 3), END)
        self.assertEqual(classes(graph), ((0, 3), (1, 2)))

    def test_long_rows_that_differ_only_at_their_end(self):
        first = chain(10, END)
        moved = tuple(("call", "a", node[2] + 11, node[3] + 11) for node in chain(10, HANG)[:-1]) + (HANG,)
        self.assertEqual(classes(first + moved), tuple((number,) for number in range(22)))
        same = tuple(("call", "a", node[2] + 11, node[3] + 11) for node in first[:-1]) + (END,)
        self.assertEqual(classes(first + same), tuple((number, number + 11) for number in range(11)))
        self.assertEqual(len(classes(chain(799, END))), 800)

    def test_many_nodes(self):
        graph = tuple(("call", "a", (number + 1) % 800, (number * 7) % 800) for number in range(800))
        self.assertEqual(classes(graph), (tuple(range(800)),))
        graph = tuple(("call", "ab"[number % 2], (number + 1) % 800, number) for number in range(800))
        self.assertEqual(classes(graph), (tuple(range(0, 800, 2)), tuple(range(1, 800, 2))))

    def test_random_graphs(self):
        for seed in range(200):
            graph = random_graph(seed, 12)
            self.assertEqual(classes(graph), plain_classes(graph), graph)


class MinimalTest(unittest.TestCase):
    """Point [103]."""

    def test_example(self):
        self.assertEqual(minimal(EXAMPLE), (("call", "a", 1, 1), ("call", "b", 2, 0), END))
        self.assertEqual(rooted(EXAMPLE, 2), (("call", "b", 2, 1), ("call", "a", 0, 0), END))
        self.assertEqual(rooted(EXAMPLE, 5), (("call", "c", 0, 0),))

    def test_start_at_an_outcome(self):
        self.assertEqual(minimal((END, ("call", "a", 0, 0))), (END,))
        self.assertEqual(minimal((HANG, END)), (HANG,))

    def test_calls_come_first(self):
        graph = (("call", "a", 2, 1), ("call", "b", 3, 3), RETURN, END)
        self.assertEqual(minimal(graph), (("call", "a", 2, 1), ("call", "b", 3, 3), RETURN, END))

    def test_outcomes_in_the_order_of_the_search(self):
        graph = (("call", "a", 1, 2), ("call", "b", 4, 3), ("call", "c", 5, 5), END, HANG, RETURN)
        self.assertEqual(minimal(graph), (
            ("call", "a", 1, 2), ("call", "b", 3, 4), ("call", "c", 5, 5), HANG, END, RETURN))
        graph = (("call", "a", 1, 5), ("call", "b", 3, 4), END, RETURN, HANG, END)
        self.assertEqual(minimal(graph), (("call", "a", 1, 2), ("call", "b", 3, 4), END, RETURN, HANG))

    def test_calls_in_the_order_of_the_search(self):
        graph = (("call", "a", 4, 3), ("call", "b", 6, 6), ("call", "c", 6, 6), ("call", "d", 2, 1),
                 ("call", "e", 5, 2), ("call", "f", 6, 0), END)
        self.assertEqual(minimal(graph), (
            ("call", "a", 1, 2), ("call", "e", 3, 4), ("call", "d", 4, 5), ("call", "f", 6, 0), ("call", "c", 6, 6),
            ("call", "b", 6, 6), END))

    def test_one_outcome_that_occurs_several_times(self):
        graph = (("call", "a", 1, 2), END, ("call", "b", 3, 4), END, END)
        self.assertEqual(minimal(graph), (("call", "a", 2, 1), ("call", "b", 2, 2), END))

    def test_equivalent_calls_become_one(self):
        graph = (("call", "a", 1, 1), ("call", "a", 2, 2), ("call", "a", 0, 1))
        self.assertEqual(minimal(graph), (("call", "a", 0, 0),))

    def test_rooted_at_each_node(self):
        graph = (("call", "a", 1, 2), ("call", "b", 2, 0), RETURN, ("call", "b", 2, 4), ("call", "a", 3, 2), HANG)
        self.assertEqual(rooted(graph, 0), (("call", "a", 1, 2), ("call", "b", 2, 0), RETURN))
        self.assertEqual(rooted(graph, 1), (("call", "b", 2, 1), ("call", "a", 0, 2), RETURN))
        self.assertEqual(rooted(graph, 2), (RETURN,))
        self.assertEqual(rooted(graph, 3), rooted(graph, 1))
        self.assertEqual(rooted(graph, 4), rooted(graph, 0))
        self.assertEqual(rooted(graph, 5), (HANG,))
        self.assertEqual(rooted(graph, 0), minimal(graph))

    def test_many_nodes(self):
        graph = chain(799, HANG)
        self.assertEqual(minimal(graph), graph)
        self.assertEqual(rooted(graph, 790), chain(9, HANG))
        self.assertEqual(rooted(graph, 799), (HANG,))
        graph = tuple(("call", "a", (number + 1) % 800, (number + 2) % 800) for number in range(800))
        self.assertEqual(minimal(graph), (("call", "a", 0, 0),))

    def test_a_minimal_graph_is_its_own_minimal_graph(self):
        for seed in range(300):
            graph = random_graph(seed, 10)
            small = minimal(graph)
            self.assertEqual(minimal(small), small)
            self.assertEqual(classes(small), tuple((node,) for node in range(len(small))))
            for row in rows_of_answers(5)[-32:]:
                self.assertEqual(run_graph(small, row), run_graph(graph, row))

    def test_rooted_has_the_behaviour_of_the_node(self):
        for seed in range(100):
            graph = random_graph(seed, 8)
            for node in range(8):
                order = [node] + [other for other in range(8) if other != node]
                moved = tuple(
                    graph[old][:2] + tuple(order.index(other) for other in graph[old][2:]) for old in order)
                self.assertEqual(rooted(graph, node), minimal(moved))

    def test_equal_if_and_only_if_equivalent(self):
        rows = rows_of_answers(4)[-16:]
        behaviours = {}
        for graph in all_graphs(2, ("a", "b"), ("end", "hang")):
            behaviour = tuple(run_graph(graph, row) for row in rows)
            behaviours.setdefault(behaviour, set()).add(minimal(graph))
        self.assertTrue(all(len(found) == 1 for found in behaviours.values()))
        found = [next(iter(one)) for one in behaviours.values()]
        self.assertEqual(len(set(found)), len(found))


if __name__ == "__main__":
    unittest.main()
