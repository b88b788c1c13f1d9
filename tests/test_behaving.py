import itertools
import random
import unittest

from flowform.behaving import behaves
from flowform.exploring import explored
from flowform.graphs import minimal
from tests.helpers import A, B, BREAK, C, CONTINUE, STOP, ResolvedMaker, loop, read, when
from tests.searching import (
    END, HANG, RETURN, ROWS, all_blocks, all_loops, any_graph, call, call_count, continuation_count, endings, fits,
    plain_behaves,
)

FOREVER = ("for", None, ())


class BehavesTest(unittest.TestCase):
    """Points [153] to [155]."""

    def check(self, graph, expected, node, continuation, loops, *block):
        self.assertIs(behaves(graph, (node, continuation, loops), block), expected, (node, continuation, loops, block))

    def test_examples(self):
        body = (("while", None, ("call", "cell"), (when(("call", "bad"), (("continue", 2),)),)), ("call", "good"))
        self.check(ROWS, True, 1, 0, ((0, 4),), *body)
        self.check(ROWS, False, 1, 0, (), *body)
        self.check(ROWS, False, 1, 4, ((0, 4),), *body)
        self.check(ROWS, True, 4, 4, ())
        self.check(ROWS, True, 0, 4, ((0, 4),), CONTINUE)
        self.check(ROWS, False, 0, 5, ())

    def test_completed_normally(self):
        graph = (call("a", 1, 1), call("b", 2, 0), RETURN, END)
        self.assertEqual(minimal(graph), graph[:3])
        self.check(graph, True, 0, 1, (), A)
        self.check(graph, False, 0, 0, (), A)
        self.check(graph, False, 0, 2, (), A)
        self.check(graph, False, 0, 1, (), B)
        self.check(graph, False, 0, 1, ())
        self.check(graph, True, 1, 1, ())
        self.check(graph, False, 0, 1, (), A, A)
        self.check(graph, True, 0, 0, (), A, when(B, (STOP,)))
        self.check(graph, False, 0, 0, (), A, B)
        self.check(graph, True, 0, 2, (), loop(A, when(B, (BREAK,))))

    def test_other_calls(self):
        graph = (call("a", 1, 2), call("b", 3, 3), call("c", 3, 3), END)
        self.check(graph, True, 0, 3, (), when(A, (B,), (C,)))
        self.check(graph, False, 0, 3, (), when(A, (B,), (B,)))
        self.check(graph, False, 0, 3, (), when(A, (C,), (B,)))
        self.check(graph, False, 0, 3, (), when(A, (B,)))
        self.check(graph, False, 0, 3, (), when(A, (B, B), (C,)))
        self.check(graph, True, 0, 3, (), when(("not", A), (C,), (B,)))
        self.check(graph, True, 0, 3, (), when(("not", ("not", A)), (B,), (C,)))

    def test_one_wrong_answer_is_enough(self):
        graph = (call("a", 1, 3), call("a", 2, 3), call("a", 4, 3), END, RETURN)
        self.assertEqual(minimal(graph), graph)
        right = when(A, (when(A, (when(A, (STOP,)),)),))
        self.check(graph, True, 0, 3, (), right)
        self.check(graph, True, 0, 3, (), when(("and", (A, A, A)), (STOP,)))
        self.check(graph, False, 0, 3, (), when(("and", (A, A)), (STOP,)))
        self.check(graph, False, 0, 3, (), when(("and", (A, A, A, A)), (STOP,)))
        self.check(graph, False, 0, 3, (), when(("and", (A, A, A)), (STOP,), (STOP,)))
        self.check(graph, False, 0, 3, (), when(("or", (A, A, A)), (STOP,)))

    def test_break_and_continue(self):
        graph = (call("a", 1, 1), call("b", 2, 2), call("c", 0, 3), END)
        loops = ((1, 0), (2, 3), (0, 1))
        for number, (again, behind) in enumerate(loops):
            for node in range(4):
                self.check(graph, node == again, node, 0, loops, ("continue", number + 1))
                self.check(graph, node == behind, node, 0, loops, ("break", number + 1))
        # What is behind a jump does not count, and neither does the continuation.
        self.check(graph, True, 3, 0, loops, ("break", 2), A, A)
        self.check(graph, True, 0, 3, loops, A, ("continue", 1))
        self.check(graph, False, 0, 3, loops, A, ("continue", 2))
        self.check(graph, True, 2, 1, ((0, 3),), when(C, (CONTINUE,), (BREAK,)))
        self.check(graph, False, 2, 1, ((0, 3),), when(C, (BREAK,), (CONTINUE,)))

    def test_jumps_inside_of_loops_of_the_block(self):
        graph = (call("a", 1, 1), call("b", 2, 2), call("c", 0, 3), END)
        self.check(graph, True, 2, 0, ((0, 3),), loop(when(C, (("continue", 2),), (("break", 2),))))
        self.check(graph, False, 2, 0, ((0, 3),), loop(when(C, (("continue", 2),), (BREAK,))))
        self.check(graph, True, 2, 3, ((0, 2),), loop(when(C, (("continue", 2),), (BREAK,))))
        self.check(graph, True, 2, 1, ((1, 1), (0, 3)), loop(loop(when(C, (("continue", 4),), (("break", 4),)))))
        self.check(graph, True, 2, 1, ((1, 1), (0, 3)), loop(("while", None, C, (("continue", 4),)), ("break", 3)))
        self.check(graph, False, 2, 1, ((1, 1), (0, 3)), loop(("while", None, C, (("continue", 3),)), ("break", 3)))
        self.check(graph, True, 0, 3, (), loop(A, B, when(C, (CONTINUE,)), BREAK))

    def test_stops(self):
        outcomes = ("return", "return 7", "break x", "continue x")
        for one in outcomes:
            graph = (call("a", 0, 1), ("outcome", one))
            for other in outcomes:
                self.check(graph, one == other, 1, 2, (), ("stop", other))
                self.check(graph, one == other, 0, 2, (), ("while", None, A, ()), ("stop", other))
                self.check(graph, False, 0, 2, (), ("stop", other))
            self.check(graph, True, 1, 1, ())
            self.check(graph, False, 1, 2, ())
        self.check((call("a", 0, 1), END), False, 1, 1, (), STOP)

    def test_blocks_that_go_on_forever(self):
        graph = (call("a", 0, 1), HANG)
        self.check(graph, True, 1, 0, (), FOREVER)
        self.check(graph, True, 1, 0, (), loop(CONTINUE))
        self.check(graph, True, 1, 0, (), loop(loop(BREAK)), A)
        self.check(graph, True, 1, 0, (), loop(loop(("continue", 2)), STOP))
        self.check(graph, True, 0, 2, (), ("while", None, A, ()), FOREVER)
        self.check(graph, False, 0, 2, (), FOREVER)
        self.check(graph, False, 1, 1, (), A)
        # Forever, but with calls: the run is never at "hang".
        graph = (call("a", 0, 0),)
        self.check(graph, True, 0, 1, (), loop(A))
        self.check(graph, True, 0, 0, (), loop(A))
        self.check(graph, False, 0, 1, (), FOREVER)
        self.check(graph, False, 0, 1, (), A)
        self.check(graph, True, 0, 0, (), A)
        for outcome in ("end", "return", "break x"):
            self.check((call("a", 0, 1), ("outcome", outcome)), False, 1, 1, (), FOREVER)
            self.check((call("a", 0, 1), ("outcome", outcome)), False, 0, 1, (), ("while", None, A, ()), FOREVER)
        self.check((HANG,), True, 0, 1, (), FOREVER)
        self.check((HANG,), False, 0, 1, ())
        self.check((HANG,), True, 0, 0, ())

    def test_rounds_without_a_call_that_come_to_an_end(self):
        self.check((call("a", 1, 1), END), True, 0, 1, (), *[loop(BREAK)] * 50, A)

    def test_nowhere(self):
        graph = (call("a", 1, 0), RETURN)
        self.check(graph, True, 0, 2, (), ("while", None, ("not", A), ()), STOP)
        self.check(graph, True, 0, 2, ((0, 2),), when(A, (STOP,), (CONTINUE,)))
        self.check(graph, False, 0, 2, (), when(A, (STOP,)))
        self.check(graph, False, 0, 2, (), ("while", None, ("not", A), ()))
        self.check(graph, False, 1, 2, ())
        for node in (0, 1):
            self.check(graph, False, node, 2, ((0, 2),), BREAK)
            self.check(graph, False, node, 2, ())
        self.check(graph, True, 1, 2, (), STOP)

    def test_jumps_that_lead_beyond_all_loops(self):
        graph = (call("a", 0, 1), END)
        for word in ("break", "continue"):
            self.check(graph, False, 1, 1, (), (word, 1))
            self.check(graph, False, 0, 1, ((0, 1),), ("while", None, A, ()), (word, 2))
            # Where they are never reached, too.
            self.check(graph, True, 1, 1, ((0, 1),), BREAK, (word, 1))
            self.check(graph, False, 1, 1, ((0, 1),), BREAK, (word, 2))
            self.check(graph, False, 1, 1, ((0, 1),), BREAK, when(A, (), ((word, 2),)))
            self.check(graph, True, 1, 1, ((0, 1),), BREAK, loop((word, 2)))
            self.check(graph, False, 1, 1, ((0, 1),), BREAK, loop((word, 3)))
            self.check(graph, False, 1, 1, ((0, 1), (0, 1)), BREAK, loop(loop(when(A, ((word, 5),)))))
            self.check(graph, True, 1, 1, ((0, 1), (0, 1)), BREAK, loop(loop(when(A, ((word, 4),)))))
            self.check(graph, False, 1, 1, (), ("while", None, A, (BREAK,)), (word, 1))
            self.check((END,), False, 0, 0, (), loop(BREAK), loop(BREAK, (word, 2)))
            self.check((END,), True, 0, 0, (), loop(BREAK), loop(BREAK, (word, 1)))
        self.check(graph, True, 1, 1, ((0, 1),) * 3, ("break", 3))
        self.check(graph, False, 1, 1, ((0, 1),) * 3, ("break", 4))

    def test_wrong_numbers(self):
        for node in (-1, -4, 5, 6, 10 ** 20):
            self.check(ROWS, False, node, 4, ())
            self.check(ROWS, False, node, node, ())
            self.check(ROWS, False, 4, node, ())
        # The graph has an outcome "end", so there is no nowhere.
        self.check(ROWS, False, 4, 5, ())
        self.check(ROWS, True, 4, 4, ((0, 4), (3, 0), (1, 1)))
        for wrong in ((-1, 0), (4, 0), (0, -1), (0, 5), (5, 5), (0, 10 ** 9), (9, 0)):
            for loops in ((wrong,), ((0, 4), wrong), (wrong, (0, 4)), ((0, 4), wrong, (3, 0)), ((0, 0), (0, 0), wrong)):
                self.check(ROWS, False, 4, 4, loops)
        graph = (call("a", 1, 0), RETURN)
        self.check(graph, True, 1, 1, ((0, 2),))
        self.check(graph, False, 1, 1, ((0, 3),))
        self.check(graph, False, 2, 2, ())
        self.check(graph, False, 0, 3, ())
        self.check((END,), True, 0, 0, ())
        self.check((END,), False, 0, 0, ((0, 0),))
        self.check((RETURN,), False, 0, 2, (), STOP)
        self.check((RETURN,), True, 0, 1, (), STOP)

    def test_nodes_that_are_outcomes(self):
        for outcome in ("end", "hang", "return"):
            graph = minimal((call("a", 0, 1), ("outcome", outcome)))
            self.check(graph, True, 1, 1, ())
            self.check(graph, False, 1, 1, (), A)
            self.check(graph, False, 1, 0, ())
            self.check(graph, True, 1, 0, ((0, 1),), BREAK)
            self.check(graph, True, 1, 1, (), loop(BREAK))
            self.check(graph, False, 1, 1, (), when(A, ()))

    def test_numbers_are_those_of_the_minimal_flow_graph(self):
        graph = (call("a", 4, 2), RETURN, call("b", 5, 3), END, END, call("a", 3, 2), call("z", 0, 1))
        self.check(graph, True, 0, 2, (), loop(when(A, (BREAK,)), when(B, (), (BREAK,))))
        self.check(graph, True, 1, 2, ((0, 2),), when(B, (CONTINUE,)))
        self.check(graph, False, 3, 3, ())

    def test_whole_programs(self):
        for seed in range(150):
            resolved = ResolvedMaker(seed, 0, False).body(4)
            graph = minimal(explored(resolved))
            target = graph.index(END) if END in graph else len(graph)
            self.check(graph, True, 0, target, (), *resolved)
            other = ResolvedMaker(seed + 1000, 0, False).body(3)
            self.check(graph, minimal(explored(other)) == graph, 0, target, (), *other)
            if continuation_count(graph) > 1:
                wrong = (target + 1) % continuation_count(graph)
                expected = plain_behaves(graph, (0, wrong, ()), resolved)
                self.check(graph, expected, 0, wrong, (), *resolved)

    def test_all_small_blocks_in_small_graphs(self):
        found = {True: 0, False: 0}
        chooser = random.Random(2)
        blocks = [block for size in (1, 2, 3) for block in all_blocks("a", ("return",), size, 2, 3)]
        for graph in ((call("a", 1, 1), call("a", 0, 2), END), (call("a", 1, 2), call("a", 0, 2), RETURN),
                      (call("a", 0, 1), HANG), (call("a", 0, 0),), any_graph(7, 3, ("end", "return"), "a")):
            graph = minimal(graph)
            loops = tuple(chooser.choice(all_loops(graph)) for _ in range(2))
            for block in chooser.sample(blocks, 400):
                for node in range(len(graph)):
                    ends = endings(graph, node, block)
                    for continuation in range(continuation_count(graph)):
                        expected = ends is not None and fits(graph, ends[0], continuation, loops)
                        self.check(graph, expected, node, continuation, loops, *block)
                        found[expected] += 1
        self.assertGreater(min(found.values()), 300)

    def test_random_blocks_in_random_graphs(self):
        found = {True: 0, False: 0}
        for seed in range(700):
            chooser = random.Random(seed)
            graph = any_graph(seed, chooser.randint(1, 3), chooser.choice([("end",), (), ("return", "end")]), "a")
            if call_count(graph) == 0:
                continue
            many = chooser.randint(0, 3)
            loops = tuple(chooser.choice(all_loops(graph)) for _ in range(many))
            block = ResolvedMaker(seed, 0, False, "a").body(2, many)
            for node, continuation in itertools.product(range(len(graph)), range(continuation_count(graph))):
                expected = plain_behaves(graph, (node, continuation, loops), block)
                self.check(graph, expected, node, continuation, loops, *block)
                found[expected] += 1
        self.assertGreater(min(found.values()), 300)

    def test_great_blocks_and_graphs(self):
        graph = tuple(call("a", number + 1, number + 1) for number in range(99)) + (END,)
        self.check(graph, True, 0, 99, (), *[A] * 99)
        self.check(graph, False, 0, 99, (), *[A] * 98)
        self.check(graph, False, 0, 99, (), *[A] * 100)
        self.check(graph, True, 49, 99, ((0, 99),), *[A] * 50)
        deep = (A,)
        for _ in range(40):
            deep = (loop(*deep, BREAK),)
        self.check((call("a", 1, 1), END), True, 0, 1, (), *deep)
        self.check((call("a", 0, 0),), True, 0, 1, (), loop(*[A] * 198))
        ring = tuple(call("a", (number + 1) % 97, 97) for number in range(97)) + (END,)
        self.assertEqual(len(minimal(ring)), 2)
        names = tuple(call("a" if number else "b", (number + 1) % 97, 97) for number in range(97)) + (END,)
        body = [when(("not", ("call", "a")), (("break", 1),)) for _ in range(64)]
        self.check(names, False, 1, 97, (), loop(*body))
        self.check(names, False, 1, 0, ((0, 97),), *[when(("not", A), (BREAK,))] * 49)
        self.check(names, True, 48, 0, ((0, 97),), *[when(("not", A), (BREAK,))] * 49)

    def test_a_program_of_the_document(self):
        program = read("outer: while (row()) { while (cell()) if (bad()) continue outer; good(); }")
        self.check(ROWS, True, 0, 4, (), *program)
        self.check(ROWS, True, 1, 0, ((0, 4),), *program[0][3])
        self.check(ROWS, False, 1, 0, ((3, 4),), *program[0][3])
        self.check(ROWS, True, 1, 3, ((0, 4), (1, 2)), program[0][3][0])
        self.check(ROWS, False, 1, 3, ((1, 2), (0, 4)), program[0][3][0])


if __name__ == "__main__":
    unittest.main()
