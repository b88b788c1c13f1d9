import unittest

from flowform.comparing import check_matching, compare, matching
from flowform.graphs import event, minimal, run_graph
from tests.helpers import all_graphs, flow, random_graph, rows_of_answers

END = ("outcome", "end")
HANG = ("outcome", "hang")
RETURN = ("outcome", "return")
DOUBLED = (("call", "a", 1, 3), ("call", "b", 2, 0), ("call", "a", 1, 3), END)

ONE = flow("while (a()) b();")
TWO = flow("while (a()) { b(); b(); }")


def plain_difference(first, second, most):
    """Return the first difference among rows of at most so many answers, which are tried one after another."""
    for row in rows_of_answers(most):
        events = (event(first, row), event(second, row))
        if events[0] != events[1]:
            calls = tuple(told[:-2] for told in run_graph(first, row)[:-1])
            return (row, calls, *events)
    return None


class CompareTest(unittest.TestCase):
    """Points [110] and [112]."""

    def check(self, first, second, expected):
        self.assertEqual(compare(first, second), expected)
        turned = None if expected is None else (expected[0], expected[1], expected[3], expected[2])
        self.assertEqual(compare(second, first), turned)

    def test_examples(self):
        self.check(ONE, TWO, ((True, True), ("a", "b"), "a()", "b()"))
        self.check(ONE, flow("for (;;) { if (!a()) break; b(); }"), None)
        self.check((("call", "a", 0, 1), END), (("call", "a", 1, 2), HANG, END), ((True,), ("a",), "a()", "hang"))

    def test_equal_graphs(self):
        for graph in (ONE, TWO, DOUBLED, (END,), (HANG,), (("call", "a", 0, 0),)):
            self.check(graph, graph, None)

    def test_equivalent_graphs_that_are_not_equal(self):
        self.check(ONE, DOUBLED, None)
        self.check((END,), (END, HANG, ("call", "a", 1, 2)), None)
        self.check((("call", "a", 1, 2), END, END), (("call", "a", 1, 1), END), None)
        self.check((("call", "a", 1, 2), ("call", "a", 2, 0), ("call", "a", 0, 1)), (("call", "a", 0, 0),), None)

    def test_a_difference_after_no_answers(self):
        self.check((END,), (RETURN,), ((), (), "end", "return"))
        self.check((END,), (("call", "end", 0, 0),), ((), (), "end", "end()"))
        self.check((("call", "a", 0, 0),), (("call", "b", 0, 0),), ((), (), "a()", "b()"))
        self.check(ONE, (HANG,), ((), (), "a()", "hang"))

    def test_a_difference_after_one_answer_only(self):
        second = (("call", "a", 2, 2), END, HANG)
        self.check((("call", "a", 1, 2), END, HANG), second, ((True,), ("a",), "end", "hang"))
        self.check((("call", "a", 2, 1), END, HANG), second, ((False,), ("a",), "end", "hang"))

    def test_the_first_of_several_of_the_same_length(self):
        self.check((("call", "a", 1, 1), END), (("call", "a", 1, 2), HANG, RETURN), ((True,), ("a",), "end", "hang"))
        first = (("call", "a", 1, 2), ("call", "b", 3, 3), ("call", "c", 3, 3), END)
        second = (("call", "a", 1, 2), ("call", "b", 3, 4), ("call", "c", 4, 3), END, RETURN)
        self.check(first, second, ((True, False), ("a", "b"), "end", "return"))
        second = (("call", "a", 1, 2), ("call", "b", 3, 3), ("call", "c", 4, 4), END, RETURN)
        self.check(first, second, ((False, True), ("a", "c"), "end", "return"))

    def test_a_shorter_row_comes_first(self):
        first = (("call", "a", 1, 2), ("call", "b", 2, 2), END)
        second = (("call", "a", 1, 3), ("call", "b", 3, 3), END, HANG)
        self.check(first, second, ((False,), ("a",), "end", "hang"))

    def test_long_differences(self):
        def row(many, last):
            calls = tuple(("call", f"c{number}", number + 1, number + 1) for number in range(many))
            return calls + (("outcome", last),)

        names = tuple(f"c{number}" for number in range(99))
        self.check(row(99, "end"), row(99, "hang"), ((True,) * 99, names, "end", "hang"))
        round_trips = [tuple(("call", "a", (number + 1) % many, many if number == many - 1 else (number + 1) % many)
                             for number in range(many)) + (END,) for many in (7, 9)]
        self.check(*round_trips, ((True,) * 6 + (False,), ("a",) * 7, "end", "a()"))
        loops = [tuple(("call", "a", (number + 1) % many, number) for number in range(many - 1)) + (END,)
                 for many in (50, 51)]
        self.check(*loops, ((True,) * 49, ("a",) * 49, "end", "a()"))

    def test_small_graphs(self):
        graphs = all_graphs(2, "a", ("end", "hang"))
        for first in graphs:
            for second in graphs:
                self.assertEqual(compare(first, second), plain_difference(first, second, 3))

    def test_random_graphs(self):
        different = 0
        for seed in range(300):
            first, other = random_graph(seed, 5), random_graph(seed + 1000, 5)
            second = first[:seed % 5] + (other[seed % 5],) + first[seed % 5 + 1:]
            expected = plain_difference(first, second, 8)
            self.assertEqual(compare(first, second), expected)
            different += expected is not None and len(expected[0]) > 1
            self.assertEqual(compare(first, second) is None, minimal(first) == minimal(second))
        self.assertGreater(different, 30)

    def test_the_number_of_answers(self):
        for seed in range(300):
            first, second = random_graph(seed, 6, "a"), random_graph(seed + 500, 6, "a")
            found = compare(first, second)
            if found is not None:
                self.assertLessEqual(len(found[0]), max(0, len(minimal(first)) + len(minimal(second)) - 2))


class MatchingTest(unittest.TestCase):
    """Point [111]: the matching that is told."""

    def test_examples(self):
        self.assertEqual(matching(ONE, DOUBLED), ((0, 0), (0, 2), (1, 1), (2, 3)))
        self.assertEqual(matching(DOUBLED, ONE), ((0, 0), (1, 1), (2, 0), (3, 2)))

    def test_not_equivalent(self):
        self.assertIsNone(matching(ONE, TWO))
        self.assertIsNone(matching((END,), (HANG,)))
        self.assertIsNone(matching((("call", "a", 1, 1), END), (("call", "a", 1, 2), END, RETURN)))

    def test_one_outcome(self):
        self.assertEqual(matching((END,), (END, END)), ((0, 0),))
        self.assertEqual(matching((HANG,), (HANG, ("call", "a", 0, 1))), ((0, 0),))

    def test_nodes_that_are_doubled(self):
        first = (("call", "a", 1, 2), ("call", "a", 2, 0), ("call", "a", 0, 1))
        self.assertEqual(matching(first, (("call", "a", 0, 0),)), ((0, 0), (1, 0), (2, 0)))
        second = (("call", "a", 1, 1), ("call", "a", 0, 0))
        self.assertEqual(matching(first, second), ((0, 0), (0, 1), (1, 0), (1, 1), (2, 0), (2, 1)))

    def test_nodes_that_are_not_reached(self):
        first = (("call", "a", 3, 3), END, ("call", "b", 0, 0), END)
        second = (("call", "a", 2, 4), RETURN, END, ("call", "a", 2, 4), END)
        self.assertEqual(matching(first, second), ((0, 0), (3, 2), (3, 4)))

    def test_only_pairs_to_which_the_same_answers_lead(self):
        graph = (("call", "a", 1, 2), ("call", "b", 3, 3), ("call", "b", 3, 3), END)
        self.assertEqual(matching(graph, graph), ((0, 0), (1, 1), (2, 2), (3, 3)))

    def test_many_pairs(self):
        first = tuple(("call", "a", (number + 1) % 99, number) for number in range(99))
        second = tuple(("call", "a", (number + 1) % 100, number) for number in range(100))
        pairs = matching(first, second)
        self.assertEqual(pairs, tuple((one, other) for one in range(99) for other in range(100)))
        self.assertTrue(check_matching(first, second, pairs))

    def test_random_graphs(self):
        for seed in range(200):
            graph = random_graph(seed, 7)
            pairs = matching(graph, minimal(graph))
            self.assertEqual(pairs, tuple(sorted(set(pairs))))
            self.assertTrue(check_matching(graph, minimal(graph), pairs))
            for pair in pairs:
                rest = tuple(other for other in pairs if other != pair)
                self.assertFalse(check_matching(graph, minimal(graph), rest))


class CheckMatchingTest(unittest.TestCase):
    """Point [111]: check_matching."""

    PAIRS = ((0, 0), (0, 2), (1, 1), (2, 3))

    def check(self, pairs, expected, first=ONE, second=DOUBLED):
        self.assertIs(check_matching(first, second, pairs), expected)

    def test_example(self):
        self.check(((0, 0), (1, 1)), False, ONE, ONE)
        self.check(((0, 0), (1, 1), (2, 2)), True, ONE, ONE)

    def test_in_any_order_and_twice(self):
        self.check(self.PAIRS, True)
        self.check(self.PAIRS[::-1], True)
        self.check(self.PAIRS[2:] + self.PAIRS[:2], True)
        self.check(self.PAIRS + self.PAIRS + self.PAIRS[:1], True)
        self.check(self.PAIRS * 2500, True)

    def test_one_left_out(self):
        for number in range(4):
            self.check(self.PAIRS[:number] + self.PAIRS[number + 1:], False)
            self.check(self.PAIRS[:number] + self.PAIRS[number + 1:] * 3, False)

    def test_no_pairs(self):
        self.check((), False)
        self.check((), False, (END,), (END,))
        self.check(((1, 1),), False, (END, END), (END, END))

    def test_more_than_needed(self):
        doubled = DOUBLED + (END, ("call", "b", 5, 5))
        self.check(self.PAIRS + ((2, 4),), True, ONE, doubled)
        self.check(self.PAIRS + ((1, 3),), False, ONE, doubled)
        self.check(self.PAIRS + ((2, 5),), False, ONE, doubled)
        self.check(self.PAIRS + ((1, 5),), False, ONE, doubled)
        self.check(self.PAIRS + ((2, 0),), False)
        self.check(((0, 1),) + self.PAIRS, False)

    def test_numbers_that_are_no_nodes(self):
        for wrong in ((-1, 0), (0, -1), (-3, -4), (2, -1), (-1, 3), (3, 3), (2, 4), (10 ** 30, 3), (2, 10 ** 30),
                      (-10 ** 30, -10 ** 30), (3, 4)):
            self.check(self.PAIRS + (wrong,), False)
            self.check((wrong,) + self.PAIRS, False)
            self.check((wrong,), False)

    def test_outcomes_and_calls(self):
        self.check(((0, 0),), True, (END,), (END,))
        self.check(((0, 0),), False, (END,), (HANG,))
        self.check(((0, 0),), False, (END,), (("call", "end", 0, 0),))
        self.check(((0, 0),), True, (("call", "a", 0, 0),), (("call", "a", 0, 0),))
        self.check(((0, 0),), False, (("call", "a", 0, 0),), (("call", "b", 0, 0),))

    def test_both_followers_are_asked_for(self):
        first = (("call", "a", 1, 2), END, HANG)
        self.check(((0, 0), (1, 1), (2, 2)), True, first, first)
        self.check(((0, 0), (1, 1)), False, first, first)
        self.check(((0, 0), (2, 2)), False, first, first)
        turned = (("call", "a", 2, 1), END, HANG)
        self.check(((0, 0), (1, 1), (2, 2)), False, first, turned)
        self.check(((0, 0), (1, 2), (2, 1)), False, first, turned)

    def test_no_pairs_show_what_is_not_equivalent(self):
        nodes = [(one, other) for one in range(2) for other in range(2)]
        graphs = all_graphs(2, "a", ("end", "hang"))
        for first in graphs:
            for second in graphs:
                tables = [tuple(pair for number, pair in enumerate(nodes) if bits >> number & 1) for bits in range(16)]
                found = any(check_matching(first, second, pairs) for pairs in tables)
                self.assertEqual(found, compare(first, second) is None)


if __name__ == "__main__":
    unittest.main()
