import functools
import itertools
import random
import types
import unittest

from flowform.conditions import earlier_condition, first_condition, first_conditions, leads
from flowform.errors import TooLarge, TooManyPositions
from flowform.flows import flow_graph
from flowform.graphs import minimal
from flowform.programs import part_count, part_depth
from flowform.reader import read_condition, read_program
from tests.helpers import A, B, C, Maker, raised, random_graph
from tests.searching import (
    END, ROWS, all_conditions, any_graph, call, call_count, compare_conditions, condition_size, leads_from,
    plain_leads, row_graph,
)

# From node 0 some first conditions have more than 60 parts, and others 60 or fewer.
LARGE = (
    call("b", 1, 1), call("b", 2, 3), call("a", 4, 5), call("a", 6, 4), call("a", 6, 7), call("b", 7, 7),
    call("a", 8, 1), call("a", 6, 8), call("a", 3, 6))


def negation(condition, times=1):
    return condition if times == 0 else ("not", negation(condition, times - 1))


def conjunction(*parts):
    return ("and", parts)


def disjunction(*parts):
    return ("or", parts)


def short(text):
    """Return a condition; letters stand for calls."""
    return read_condition("".join(letter + "()" if letter.isalpha() else letter for letter in text))


class LeadsTest(unittest.TestCase):
    """Points [140] and [141]."""

    def check(self, graph, text, node, expected):
        self.assertEqual(leads(graph, short(text), node), expected, text)
        self.assertEqual(plain_leads(minimal(graph), short(text), node), expected, text)

    def test_examples(self):
        self.assertEqual(flow_graph(read_program(
            "outer: while (row()) { while (cell()) if (bad()) continue outer; good(); }")), ROWS)
        self.assertEqual(leads(ROWS, conjunction(("call", "bad"), negation(("call", "row"))), 2), (4, 1))
        self.assertEqual(leads(ROWS, ("call", "bad"), 2), (0, 1))
        self.assertIsNone(leads(ROWS, ("call", "bad"), 1))
        self.assertEqual(leads(ROWS, negation(("call", "row")), 0), (4, 1))

    def test_calls(self):
        graph = (call("a", 1, 2), call("b", 1, 0), END)
        self.check(graph, "a", 0, (1, 2))
        self.check(graph, "b", 1, (1, 0))
        self.check(graph, "b", 0, None)
        self.check(graph, "a", 1, None)
        self.check(graph, "c", 0, None)
        self.check((call("a", 1, 1), END), "a", 0, (1, 1))
        self.check((call("a", 0, 0),), "a", 0, (0, 0))

    def test_outcomes(self):
        graph = (call("a", 1, 2), END, ("outcome", "hang"))
        for node in (1, 2):
            for text in ("a", "!a", "a&&a", "a||a"):
                self.check(graph, text, node, None)
        self.check((("outcome", "return"),), "a", 0, None)
        self.assertIsNone(leads((("outcome", "a"),), A, 0))

    def test_numbers_are_those_of_the_minimal_flow_graph(self):
        graph = (call("a", 4, 2), ("outcome", "return"), call("b", 5, 3), END, END, call("a", 3, 2), call("z", 0, 1))
        self.assertEqual(minimal(graph), (call("a", 2, 1), call("b", 0, 2), END))
        self.check(graph, "a", 0, (2, 1))
        self.check(graph, "b", 1, (0, 2))
        self.check(graph, "!a&&!b", 0, None)
        self.check(graph, "a||b", 0, None)
        self.check(graph, "a||!b", 0, (2, 0))
        self.assertIsNone(leads(graph, A, 2))

    def test_not(self):
        graph = (call("a", 0, 1), call("b", 1, 2), END)
        self.check(graph, "!a", 0, (1, 0))
        self.check(graph, "!!a", 0, (0, 1))
        self.check(graph, "!!!a", 0, (1, 0))
        self.check(graph, "!b", 0, None)
        self.check(graph, "!!b", 0, None)
        self.assertEqual(leads(graph, negation(A, 20), 0), (0, 1))
        self.assertEqual(leads(graph, negation(A, 19), 0), (1, 0))
        self.check((call("a", 1, 1), END), "!a", 0, (1, 1))

    def test_not_in_front_of_chains(self):
        graph = (call("a", 1, 2), call("b", 3, 2), END, ("outcome", "hang"))
        self.assertEqual(minimal(graph)[2:], (END, ("outcome", "hang")))
        self.check(graph, "a&&b", 0, (3, 2))
        graph = (call("a", 1, 3), call("b", 2, 3), ("outcome", "return"), END)
        self.assertEqual(minimal(graph), (call("a", 1, 2), call("b", 3, 2), END, ("outcome", "return")))
        self.check(graph, "a&&b", 0, (3, 2))
        self.check(graph, "!(a&&b)", 0, (2, 3))
        self.check(graph, "!a||!b", 0, (2, 3))
        self.check(graph, "!(!a||!b)", 0, (3, 2))
        self.check(graph, "!!(a&&b)", 0, (3, 2))
        self.check(graph, "!(a||b)", 0, None)

    def test_the_same_node_after_both(self):
        graph = (call("a", 1, 1), call("b", 0, 2), END)
        self.check(graph, "a", 0, (1, 1))
        self.check(graph, "!a", 0, (1, 1))
        self.check(graph, "a&&b", 0, None)
        self.check(graph, "a||b", 0, None)
        # From b back to a: where b is true, a is called, too, and then the run is at b in any case.
        self.check(graph, "b&&a", 1, None)
        loop = (call("a", 0, 1), call("b", 0, 0))
        self.check(loop, "!a&&b", 0, (0, 0))
        self.check(loop, "a||b", 0, (0, 0))
        self.check(loop, "b&&!a", 1, (1, 0))
        self.check(loop, "b&&a", 1, None)
        self.check(loop, "b||!a", 1, None)
        self.check(loop, "b||a", 1, (0, 1))

    def test_nodes_that_are_the_start_of_the_condition(self):
        graph = (call("a", 0, 1), END)
        self.check(graph, "a", 0, (0, 1))
        self.check(graph, "a&&a", 0, (0, 1))
        self.check(graph, "a&&a&&a", 0, (0, 1))
        self.check(graph, "a||a", 0, None)
        self.check(graph, "!a||!a", 0, (1, 0))
        self.check((call("a", 0, 0),), "a&&!a||a", 0, (0, 0))

    def test_chains(self):
        graph = (call("a", 1, 3), call("b", 2, 3), call("c", 4, 3), END, ("outcome", "return"))
        self.assertEqual(minimal(graph)[3:], (END, ("outcome", "return")))
        self.check(graph, "a&&b", 0, (2, 3))
        self.check(graph, "b&&c", 1, (4, 3))
        self.check(graph, "a&&b&&c", 0, (4, 3))
        self.check(graph, "!a||!b||!c", 0, (3, 4))
        self.check(graph, "!(a&&b)||!c", 0, (3, 4))
        self.check(graph, "a&&!(!b||!c)", 0, (4, 3))
        # The first part, a part of the rest, and the last part are wrong.
        self.check(graph, "b&&b&&c", 0, None)
        self.check(graph, "a&&c&&c", 0, None)
        self.check(graph, "a&&b&&a", 0, None)
        # All parts lead on, but not to the same node where they are false.
        self.check(graph, "a&&!b&&c", 0, None)
        self.check(graph, "a&&b&&!c", 0, None)
        self.check(graph, "!a&&b&&c", 0, None)
        self.check(graph, "a||b||c", 0, None)

    def test_long_chains(self):
        graph = tuple(call("a", number + 1, 50) for number in range(49)) + (("outcome", "return"), END)
        chain = conjunction(*[A] * 49)
        self.assertEqual(leads(graph, chain, 0), (50, 49))
        self.assertEqual(leads(graph, conjunction(*[A] * 48), 1), (50, 49))
        self.assertIsNone(leads(graph, conjunction(*[A] * 50), 0))
        self.assertIsNone(leads(graph, chain, 1))
        deep = A
        for level in range(20):
            deep = disjunction(A, deep) if level % 2 else conjunction(A, deep)
        self.assertEqual(leads((call("a", 0, 0),), deep, 0), (0, 0))

    def test_all_conditions_of_a_small_size(self):
        for seed in range(12):
            graph = any_graph(seed, 3, ("end", "return")[:seed % 3])
            for size in (1, 2, 3):
                for condition in all_conditions("ab", size):
                    for node in range(len(graph)):
                        self.assertEqual(leads(graph, condition, node), plain_leads(graph, condition, node))

    def test_all_kinds_of_conditions(self):
        maker = Maker(5, "ab")
        found = 0
        for seed in range(4000):
            graph = random_graph(seed, 5)
            condition = maker.condition(3)
            while "flag" in str(condition):
                condition = maker.condition(3)
            for node in range(len(minimal(graph))):
                expected = plain_leads(minimal(graph), condition, node)
                self.assertEqual(leads(graph, condition, node), expected)
                found += expected is not None and condition_size(condition) > 1
        self.assertGreater(found, 50)


class OrderTest(unittest.TestCase):
    """Point [142]."""

    def check_row(self, row):
        for one, other in itertools.product(range(len(row)), repeat=2):
            self.assertIs(earlier_condition(row[one], row[other]), one < other, (row[one], row[other]))

    def test_the_row_of_the_document(self):
        self.check_row([short(text) for text in ("b", "!a", "a&&b", "a&&!a", "!a&&a", "a||a", "a&&(b||c)", "(a||a)&&a")])

    def test_size_comes_first(self):
        self.check_row([short(text) for text in ("z", "!z", "z&&z", "z||z", "a&&a&&a", "a&&a&&a&&a", "a||a||a||a||a")])
        self.assertTrue(earlier_condition(short("!z"), short("a&&a")))

    def test_kinds(self):
        self.check_row([short(text) for text in ("z", "!a", "!z", "z&&z", "a||a", "z||z")])
        self.check_row([short(text) for text in ("(z||z)&&z", "z||z&&z")])
        self.assertTrue(earlier_condition(short("z"), short("!a")))

    def test_names(self):
        names = ["A", "B", "Z9", "Z_", "a", "a0", "a_", "aa", "b", "z" * 30]
        self.assertEqual(names, sorted(names))
        self.check_row([("call", name) for name in names] + [negation(("call", name)) for name in names])

    def test_parts(self):
        self.check_row([short(text) for text in ("a&&a", "a&&b", "a&&!a", "b&&a", "!a&&a", "!a&&!a", "!b&&a")])
        self.check_row([short(text) for text in ("a||a", "a||b", "a||!a", "b||a", "!a||a", "!a||!a", "!b||a")])
        # A first part of smaller size comes first; of the same size the rest decides.
        self.check_row([short(text) for text in (
            "z&&z&&z", "z&&z&&!a", "z&&(a||a)", "!a&&a&&a", "(a||a)&&a", "(a||b)&&a", "(b||a)&&a")])

    def test_chains_against_chains_in_chains(self):
        self.check_row([short(text) for text in (
            "a&&a&&a&&a", "a&&a&&(a||a)", "a&&(a||a)&&a", "a&&(a||a&&a)", "a&&(a||a||a)", "a&&(a&&a||a)",
            "(a||a)&&a&&a", "(a||a)&&(a||a)", "(a||a&&a)&&a", "(a||a||a)&&a", "(a&&a||a)&&a",
            "a||a&&a&&a", "a||a&&(a||a)", "a||a||a&&a", "a||a||a||a", "a||a&&a||a", "a&&a||a&&a", "a&&a||a||a")])

    def test_the_rest_of_two_parts_is_the_second_part(self):
        self.check_row([short(text) for text in ("a&&z&&z", "a&&(a||a)")])
        self.check_row([short(text) for text in ("a||z&&z", "a||a||a")])

    def test_equal_conditions(self):
        for size in (1, 2, 3):
            for condition in all_conditions("ab", size)[::7]:
                self.assertIs(earlier_condition(condition, condition), False)

    def test_against_the_rules(self):
        conditions = [one for size in (1, 2, 3, 4) for one in all_conditions("ab", size)]
        chooser = random.Random(1)
        for _ in range(20000):
            first, second = chooser.choice(conditions), chooser.choice(conditions)
            self.assertIs(earlier_condition(first, second), compare_conditions(first, second) < 0, (first, second))

    def test_long_chains(self):
        one = conjunction(*[A] * 59)
        other = conjunction(*[A] * 58, B)
        self.check_row([conjunction(*[B] * 58), one, other, conjunction(*[A] * 57, C, A), disjunction(*[A] * 59)])


def conditions_from(nodes, size):
    """Return a function that gives all pairs of a condition of a size from a node, and where it leads."""
    @functools.cache
    def found(node, size, outside):
        if nodes[node][0] == "outcome":
            return []
        _, name, if_true, if_false = nodes[node]
        if size == 1:
            return [(("call", name), if_true, if_false), (("not", ("call", name)), if_false, if_true)]
        return [(("and", parts), *ends) for parts, ends in chains(node, size, "and") if outside != "and"] + [
            (("or", parts), *ends) for parts, ends in chains(node, size, "or") if outside != "or"]

    @functools.cache
    def chains(node, size, kind):
        result = []
        for first_size in range(1, size):
            for first, if_true, if_false in found(node, first_size, kind):
                middle, out = (if_true, if_false) if kind == "and" else (if_false, if_true)
                for second, *ends in found(middle, size - first_size, kind):
                    if ends[1 if kind == "and" else 0] == out:
                        result.append(((first, second), ends))
                for rest, ends in chains(middle, size - first_size, kind) if middle < call_count(nodes) else ():
                    if ends[1 if kind == "and" else 0] == out:
                        result.append(((first,) + rest, ends))
        return result

    return [(node, *one) for node in range(len(nodes)) for one in found(node, size, None)]


class FirstConditionsTest(unittest.TestCase):
    """Points [143] and [144]."""

    def test_examples(self):
        self.assertEqual(first_condition(ROWS, 2, 4, 1), conjunction(("call", "bad"), negation(("call", "row"))))
        self.assertEqual(list(first_conditions(ROWS)), [
            (0, 1, 4, 1), (0, 4, 1, 1), (1, 2, 3, 1), (1, 3, 2, 1), (2, 0, 1, 1), (2, 1, 0, 1), (2, 1, 4, 2),
            (2, 4, 1, 2), (3, 0, 0, 1)])
        self.assertIsInstance(first_conditions(ROWS), types.GeneratorType)

    def test_the_same_node_after_both(self):
        graph = (call("a", 1, 1), END)
        self.assertEqual(list(first_conditions(graph)), [(0, 1, 1, 1)])
        self.assertEqual(first_condition(graph, 0, 1, 1), A)
        self.assertEqual(first_condition((call("a", 0, 0),), 0, 0, 0), A)

    def test_none(self):
        for triple in ((0, 4, 4), (0, 0, 1), (1, 4, 3), (3, 0, 4), (3, 1, 1), (0, 1, 1)):
            self.assertIsNone(first_condition(ROWS, *triple))
            self.assertNotIn(triple, [row[:3] for row in first_conditions(ROWS)])

    def test_outcomes_and_nowhere(self):
        for triple in ((4, 4, 4), (4, 0, 1), (4, 1, 0)):
            self.assertIsNone(first_condition(ROWS, *triple))
        graph = (call("a", 1, 2), ("outcome", "hang"), ("outcome", "return"))
        self.assertEqual(first_condition(graph, 0, 1, 2), A)
        self.assertEqual(first_condition(graph, 0, 2, 1), negation(A))
        for triple in ((0, 1, 3), (0, 3, 2), (3, 1, 2), (1, 1, 2), (2, 0, 0), (0, 3, 3), (3, 3, 3)):
            self.assertIsNone(first_condition(graph, *triple))

    def test_graphs_without_a_call(self):
        for outcome in ("end", "hang", "return", "break x"):
            graph = (("outcome", outcome), call("a", 0, 0))
            self.assertEqual(list(first_conditions(graph)), [])
            self.assertIsNone(first_condition(graph, 0, 0, 0))

    def test_numbers_are_those_of_the_minimal_flow_graph(self):
        graph = (call("a", 4, 2), ("outcome", "return"), call("b", 5, 3), END, END, call("a", 3, 2), call("z", 0, 1))
        self.assertEqual(list(first_conditions(graph)), list(first_conditions(minimal(graph))))
        self.assertEqual(first_condition(graph, 0, 2, 0), disjunction(A, negation(B)))

    def test_against_all_conditions(self):
        """First conditions of sizes up to 7 are the first ones of all that lead there, found by their definition."""
        graphs = [any_graph(seed, 2 + seed % 3, ("end", "return")[:seed % 3], "ab"[:1 + seed % 2]) for seed in range(40)]
        sizes = set()
        for graph in graphs + [ROWS, LARGE, (call("a", 0, 0),), (call("a", 0, 1), END)]:
            expected = {}
            for size in range(1, 6 if graph in (LARGE, (call("a", 0, 0),)) else 8):
                for node, condition, if_true, if_false in conditions_from(graph, size):
                    best = expected.get((node, if_true, if_false))
                    if best is None or compare_conditions(condition, best) < 0:
                        expected[node, if_true, if_false] = condition
            found = {row[:3]: row[3] for row in first_conditions(graph)}
            for triple, size in found.items():
                if triple in expected:
                    self.assertEqual(first_condition(graph, *triple), expected[triple])
                    self.assertEqual(size, condition_size(expected[triple]))
                    sizes.add(size)
                else:
                    self.assertGreater(size, 5 if graph == LARGE else 7)
            self.assertLessEqual(set(expected), set(found))
        self.assertLessEqual({1, 2, 3, 4, 5}, sizes)

    def test_against_really_all_conditions(self):
        for graph in ((call("a", 0, 1), call("a", 1, 2), END), (call("a", 1, 2), call("a", 2, 0), call("a", 0, 0)),
                      (call("a", 1, 3), call("a", 2, 3), call("a", 0, 1), END)):
            graph = minimal(graph)
            first = {}
            for size in range(1, 6):
                for condition in all_conditions("a", size):
                    for node in range(len(graph)):
                        ends = plain_leads(graph, condition, node)
                        if ends is not None:
                            best = first.get((node, *ends))
                            if best is None or compare_conditions(condition, best) < 0:
                                first[(node, *ends)] = condition
            for node, if_true, if_false in itertools.product(range(len(graph)), repeat=3):
                found = first_condition(graph, node, if_true, if_false)
                expected = first.get((node, if_true, if_false))
                if expected is None:
                    self.assertTrue(found is None or condition_size(found) > 5)
                else:
                    self.assertEqual(found, expected)

    def test_sizes_ascending_order_and_what_they_lead_to(self):
        for seed in range(60):
            graph = any_graph(seed, 5, ("end", "return", "hang")[:seed % 4], "abc")
            rows = list(first_conditions(graph))
            self.assertEqual(rows, sorted(set(rows)))
            self.assertEqual({row[:3]: row[3] for row in rows}, leads_from(graph, 1000))
            for node, if_true, if_false, size in rows:
                condition = first_condition(graph, node, if_true, if_false)
                self.assertEqual(condition_size(condition), size)
                self.assertEqual(plain_leads(graph, condition, node), (if_true, if_false))

    def test_too_large(self):
        large = kept = 0
        for node, if_true, if_false, size in first_conditions(LARGE):
            error = raised(first_condition, LARGE, node, if_true, if_false)
            if error is not None:
                self.assertIs(error.__class__, TooLarge)
                self.assertGreater(size, 20)
                large += 1
            else:
                condition = first_condition(LARGE, node, if_true, if_false)
                self.assertLessEqual(part_count(condition), 60)
                self.assertLessEqual(part_depth(condition), 20)
                self.assertEqual(plain_leads(LARGE, condition, node), (if_true, if_false))
                kept = max(kept, part_count(condition))
        self.assertGreater(large, 3)
        self.assertEqual(kept, 60)


class TooManyTest(unittest.TestCase):
    """Point [144]: the error; k * t is never exactly 100, but 99 and 104 are possible."""

    def check(self, graph, count):
        for error in (raised(lambda: list(first_conditions(graph))), raised(first_condition, graph, 0, 0, 0)):
            self.assertIs(error.__class__, TooManyPositions)
            self.assertEqual(error.count, count)

    def test_up_to_100(self):
        outcomes = ("end", "hang", "return", "return 1", "break x", "continue x", "break y")
        for calls, ends, count in ((9, 2, 99), (9, 1, 90), (8, 4, 96), (7, 7, 98), (6, 7, 78)):
            graph = row_graph(calls, outcomes[:ends])
            self.assertEqual((call_count(graph), len(graph)), (calls, calls + ends))
            self.assertEqual(call_count(graph) * len(graph), count)
            self.assertGreater(len(list(first_conditions(graph))), 0)
            self.assertEqual(first_condition(graph, 0, graph[0][2], graph[0][3]), A)

    def test_above(self):
        outcomes = ("end", "hang", "return", "return 1", "break x", "continue x", "break y")
        for calls, ends, count in ((8, 5, 104), (9, 3, 108), (10, 1, 110), (10, 0, 110), (11, 2, 143)):
            self.check(row_graph(calls, outcomes[:ends]), count)
        # Nowhere counts, too: 9 calls and 3 places more.
        self.check(row_graph(9, outcomes[1:3]), 108)
        self.check(row_graph(8, outcomes[1:5]), 104)
        self.assertEqual(len(row_graph(9, outcomes[1:2])), 10)
        self.assertIsNone(raised(first_condition, row_graph(9, outcomes[1:2]), 0, 1, 1))

    def test_great_graphs(self):
        self.check(tuple(call("a", number + 1, 99) for number in range(99)) + (END,), 9900)
        many = tuple(call("a", (number + 1) % 100, 5) for number in range(100))
        self.assertEqual(list(first_conditions(many)), [(0, 0, 0, 1)])

    def test_the_error_comes_before_all_else(self):
        graph = row_graph(10, ("end",))
        for triple in ((10, 10, 10), (11, 0, 0), (0, 5, 5)):
            self.assertIs(raised(first_condition, graph, *triple).__class__, TooManyPositions)


if __name__ == "__main__":
    unittest.main()
