import unittest

from flowform.comparing import compare
from flowform.errors import TooLarge
from flowform.graphs import event, minimal, rooted, run_graph
from flowform.suites import suite
from tests.helpers import all_graphs, answers, raised, random_graph, rows_of_answers

END = ("outcome", "end")
HANG = ("outcome", "hang")
WORK = (("call", "ready", 1, 2), ("call", "work", 0, 0), END)


def row_of_calls(many):
    """Return a flow graph with one node more than there are calls in a row."""
    return tuple(("call", f"c{number}", number + 1, number + 1) for number in range(many)) + (END,)


def all_rows(most):
    return tuple(rows_of_answers(most))


def plain_suite(graph, extra):
    """Return what [130] says, where rows are found by trying all of them in order."""
    small = minimal(graph)
    rows = rows_of_answers(len(small) * 2)
    access = []
    for node in range(len(small)):
        for row in rows:
            at = 0
            for number, answer in enumerate(row):
                at = None if small[at][0] == "outcome" else small[at][2 if answer else 3]
                if at is None:
                    break
            if at == node:
                access.append(row)
                break
    telling = [()]
    for one in range(len(small)):
        for other in range(len(small)):
            if one != other:
                flows = (rooted(small, one), rooted(small, other))
                telling.append(next(row for row in rows if event(flows[0], row) != event(flows[1], row)))
    joined = [first + middle + last for first in access for middle in rows_of_answers(extra + 1) for last in telling]
    taken = {row[:len(run_graph(graph, row)) - 1] for row in joined}
    return tuple(sorted(taken, key=lambda row: (len(row), [not answer for answer in row])))


class SuiteTest(unittest.TestCase):
    """Points [130] and [131]."""

    def test_examples(self):
        self.assertEqual(suite((("call", "a", 0, 1), END)), ((), (True,), (False,)))
        self.assertEqual(suite((("call", "a", 1, 2), ("call", "a", 0, 0), END)), (
            (), (True,), (False,), (True, True), (True, False), (True, True, False), (True, False, False)))

    def test_one_outcome(self):
        for extra in (0, 1, 2):
            self.assertEqual(suite((END,), extra=extra), ((),))
            self.assertEqual(suite((HANG, ("call", "a", 0, 1)), extra=extra), ((),))

    def test_one_call(self):
        graph = (("call", "a", 0, 0),)
        self.assertEqual(suite(graph), all_rows(1))
        self.assertEqual(suite(graph, extra=0), all_rows(1))
        self.assertEqual(suite(graph, extra=1), all_rows(2))
        self.assertEqual(suite(graph, extra=2), all_rows(3))

    def test_extra_left_out(self):
        for seed in range(50):
            graph = random_graph(seed, 5)
            self.assertEqual(suite(graph), suite(graph, extra=0))

    def test_rows_end_where_the_run_ends(self):
        graph = (("call", "a", 1, 2), ("call", "b", 2, 2), END)
        self.assertEqual(suite(graph, extra=2), tuple(answers(letters) for letters in ("", "T", "F", "TT", "TF")))
        for seed in range(60):
            graph = random_graph(seed, 5)
            for row in suite(graph, extra=1):
                self.assertEqual(len(run_graph(graph, row)), len(row) + 1)

    def test_telling_answers_of_several_answers(self):
        graph = (("call", "a", 1, 1), ("call", "a", 2, 2), ("call", "a", 3, 3), ("call", "a", 3, 0))
        self.assertEqual(minimal(graph), (("call", "a", 0, 0),))
        graph = (("call", "a", 1, 1), ("call", "a", 2, 2), ("call", "a", 3, 3), END)
        self.assertEqual(suite(graph), all_rows(1) + tuple(answers(row) for row in (
            "TT", "TF", "FT", "TTT", "TTF", "TFT", "FTT")))

    def test_order_and_each_row_once(self):
        for seed in range(40):
            rows = suite(random_graph(seed, 6), extra=seed % 3)
            keys = [(len(row), tuple(not answer for answer in row)) for row in rows]
            self.assertEqual(keys, sorted(set(keys)))

    def test_the_rows(self):
        for seed in range(60):
            graph = random_graph(seed, 4)
            for extra in (0, 1, 2):
                self.assertEqual(suite(graph, extra=extra), plain_suite(graph, extra), (graph, extra))
        self.assertEqual(suite(WORK, extra=1), plain_suite(WORK, 1))

    def test_graphs_that_are_not_minimal(self):
        doubled = (("call", "ready", 3, 4), ("call", "x", 1, 1), END, ("call", "work", 5, 0), END,
                   ("call", "ready", 3, 2))
        for extra in (0, 1, 2):
            self.assertEqual(suite(doubled, extra=extra), suite(WORK, extra=extra))

    def test_too_large(self):
        self.assertEqual(suite(row_of_calls(9))[-1], (True,) * 8 + (False,))
        self.assertIs(raised(suite, row_of_calls(10)).__class__, TooLarge)
        self.assertIs(raised(suite, row_of_calls(99)).__class__, TooLarge)
        self.assertIs(raised(lambda: suite(row_of_calls(10), extra=2)).__class__, TooLarge)
        many = tuple(("call", "a", (number + 1) % 50, number) for number in range(50))
        self.assertEqual(suite(many), all_rows(1))
        self.assertEqual(suite(row_of_calls(9) + row_of_calls(10)), suite(row_of_calls(9)))
        self.assertGreater(len(suite(row_of_calls(9), extra=2)), 9)

    def test_ten_nodes_that_are_hard_to_tell_apart(self):
        graph = tuple(("call", "a", number + 1, 0) for number in range(9)) + (END,)
        rows = suite(graph, extra=1)
        self.assertIn((False,) + (True,) * 9, rows)
        self.assertTrue(all(len(row) <= 9 + 2 + 9 for row in rows))

    def check_promise(self, graph, others, extra):
        rows = suite(graph, extra=extra)
        told = [run_graph(graph, row) for row in rows]
        alike = 0
        for other in others:
            if [run_graph(other, row) for row in rows] == told:
                self.assertIsNone(compare(graph, other), (graph, other))
                alike += 1
        self.assertGreater(alike, 0)

    def test_every_other_graph_is_told_apart(self):
        smallest = [minimal(graph) for graph in all_graphs(2, "a", ("end", "hang"))]
        twos = all_graphs(2, "a", ("end", "hang"))
        threes = all_graphs(3, "a", ("end", "hang"))
        for graph in sorted(set(smallest)):
            if len(graph) == 2:
                self.check_promise(graph, twos, 0)
                self.check_promise(graph, threes, 1)
            else:
                self.check_promise(graph, twos, 1)
                self.check_promise(graph, threes, 2)
        for graph in sorted({minimal(graph) for graph in threes[::31]}):
            if len(graph) == 3:
                self.check_promise(graph, threes, 0)


if __name__ == "__main__":
    unittest.main()
