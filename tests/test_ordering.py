import itertools
import random
import unittest

from flowform.ordering import earlier_block
from tests.helpers import A, B, BREAK, C, CONTINUE, STOP, ResolvedMaker, during, loop, nots, read, when
from tests.searching import all_blocks, block_size, compare_blocks, has_other_negations

NOT_A = ("not", A)


class EarlierBlockTest(unittest.TestCase):
    """Point [170]."""

    def check_row(self, *blocks):
        """Check that the blocks are in their order, each against each and against itself."""
        for one, other in itertools.product(range(len(blocks)), repeat=2):
            self.assertIs(earlier_block(blocks[one], blocks[other]), one < other, (blocks[one], blocks[other]))

    def test_example(self):
        first = read("for (;;) { while (!a()) c(); if (b()) break; }")
        second = read("x: for (;;) { while (a()) if (b()) break x; c(); }")
        self.assertEqual(second, (loop(during(A, when(B, (("break", 2),))), C),))
        self.assertEqual([block_size(block) for block in (first, second)], [7, 7])
        self.check_row(first, second)

    def test_size_comes_first(self):
        self.check_row((), (loop(),), (BREAK, BREAK), (loop(loop(loop())),), (A, A, A, A), (BREAK,) * 5)
        self.check_row((during(A),), (BREAK, BREAK, BREAK), (when(A, (B,), (B,)),))

    def test_fewer_statements_come_first(self):
        self.check_row((loop(loop(BREAK)),), (BREAK, loop(BREAK)), (loop(BREAK), BREAK), (BREAK, BREAK, BREAK))
        self.check_row((loop(loop(loop())),), (loop(loop()), BREAK), (BREAK, BREAK, BREAK))
        # Statements inside of others do not count.
        self.check_row((loop(BREAK, BREAK, BREAK),), (BREAK, loop(loop(loop()))))
        self.check_row((loop(BREAK, BREAK),), (BREAK, loop(BREAK)))

    def test_the_first_statements_decide(self):
        # The first statement of smaller size comes first, whatever its kind is and whatever follows.
        self.check_row((BREAK, loop(loop())), (CONTINUE, when(A, ())), (A, loop(BREAK)), (loop(), loop(BREAK)),
                       (when(A, ()), BREAK), (during(A), BREAK), (loop(BREAK), BREAK))
        self.check_row((loop(), loop(loop())), (loop(loop()), loop()))
        self.check_row((B, during(A)), (B, during(B)), (C, during(A)))

    def test_the_remaining_statements_decide(self):
        self.check_row((A, BREAK), (A, ("break", 2)), (A, CONTINUE), (A, STOP), (A, A), (A, B), (A, loop()))
        self.check_row((A, BREAK, B), (A, A, BREAK), (A, A, A), (A, A, B), (A, B, A), (B, A, A))
        self.check_row((A, BREAK, loop(BREAK)), (A, loop(), loop(BREAK)), (A, loop(BREAK), BREAK))
        # The remaining statements are blocks: their sizes are equal, and so are their numbers.
        self.check_row((A, A, when(A, (B,))), (A, B, when(A, (A,))), (A, when(A, (A,)), A))

    def test_kinds(self):
        self.check_row((("break", 3),), (CONTINUE,), (("continue", 3),), (STOP,), (("stop", "continue z"),), (A,),
                       (("call", "z"),), (loop(),))
        self.check_row((when(A, ()),), (when(("call", "z"), ()),), (during(A),), (loop(BREAK),), (loop(loop()),))
        self.check_row((when(("or", (B, B)), ()),), (when(("or", (B, B)), ()), A))
        self.check_row((when(A, (B,)),), (during(A, A),), (loop(A, A),))

    def test_breaks_and_continues(self):
        self.check_row(*[(("break", number),) for number in range(1, 13)])
        self.check_row(*[(("continue", number),) for number in range(1, 13)])
        self.check_row((("break", 12),), (("continue", 2),))

    def test_stops(self):
        outcomes = ["return"] + [f"return {number}" for number in range(100)]
        for word in ("break", "continue"):
            outcomes += [f"{word} {label}" for label in ("A", "Z", "a", "a1", "a10", "a2", "a_", "aa", "b")]
        self.check_row(*[(("stop", outcome),) for outcome in outcomes])
        self.assertTrue(earlier_block((("stop", "return 9"),), (("stop", "return 10"),)))
        self.assertTrue(earlier_block((("stop", "break z"),), (("stop", "continue a"),)))

    def test_calls(self):
        self.check_row(*[(("call", name),) for name in ("A", "B", "Z9", "Z_", "a", "a0", "aa", "b", "z" * 30)])

    def test_ifs(self):
        self.check_row(
            (when(A, ()),), (when(B, ()),), (when(NOT_A, ()),), (when(A, (BREAK,)),), (when(A, (B,)),),
            (when(B, (A,)),), (when(NOT_A, (BREAK,)),), (when(("and", (A, A)), ()),), (when(("or", (A, A)), ()),))
        # With the same condition the first branches decide, then the second ones.
        self.check_row((when(A, (), (A,)),), (when(A, (), (B,)),), (when(A, (loop(),)), A))
        self.check_row((when(A, (), (B, B)),), (when(A, (), (loop(B),)), BREAK))
        self.check_row((when(A, (A,), (B, B)),), (when(A, (A, A), (B,)),))
        self.check_row((when(A, (), (B, B)),), (when(A, (B,), (A,)),), (when(A, (C,), (A,)),), (when(A, (A, A, A), ()),))
        self.check_row((when(A, (A,), (A,)),), (when(A, (A,), (B,)),), (when(A, (B,), (A,)),))
        self.check_row((when(A, (loop(A),)),), (when(A, (A, A)),), (when(B, (loop(A),)),))
        # The size of the condition comes before everything else in it.
        self.check_row((when(B, (A,)),), (when(NOT_A, (A,)),), (when(("and", (A, A)), ()),))

    def test_whiles(self):
        self.check_row((during(A),), (during(B),), (during(NOT_A),), (during(A, BREAK),), (during(A, A),),
                       (during(A, loop()),), (during(B, BREAK),), (during(("and", (A, A))),))
        self.check_row((during(A, loop(A)),), (during(A, A, A),), (during(A, A, B),), (during(A, B, A),))
        self.check_row((during(B, loop(A)),), (during(("and", (A, A)), A),), (during(("or", (A, A)), A),))

    def test_fors(self):
        self.check_row((loop(),), (loop(BREAK),), (loop(CONTINUE),), (loop(A),), (loop(loop()),))
        self.check_row((loop(when(A, ())),), (loop(during(A)),), (loop(loop(A)),), (loop(BREAK, BREAK),), (loop(A, A),))

    def test_equal_blocks(self):
        for size in range(4):
            for block in all_blocks("a", ("return",), size, 1, 2)[::3]:
                self.assertIs(earlier_block(block, block), False)

    def test_against_the_rules(self):
        blocks = [block for size in range(5) for block in all_blocks("ab", ("return", "return 7"), size, 1, 1)]
        chooser = random.Random(1)
        for _ in range(20000):
            first, second = chooser.choice(blocks), chooser.choice(blocks)
            self.assertIs(earlier_block(first, second), compare_blocks(first, second) < 0, (first, second))

    def test_great_blocks_against_the_rules(self):
        """Blocks that differ in a single place somewhere, so that the last rules are needed."""
        found = 0
        for seed in range(400):
            block = ResolvedMaker(seed, 0, False).body(3, 2)
            other = block
            chooser = random.Random(seed)
            for old, new in (("'a'", "'b'"), ("'c'", "'a'"), ("1)", "2)"), ("'continue'", "'break'"), ("7", "8")):
                if chooser.random() < 0.5:
                    other = eval(repr(other).replace(old, new, 1))
            if not has_other_negations(block):
                for one, two in itertools.permutations((block, other), 2):
                    self.assertIs(earlier_block(one, two), compare_blocks(one, two) < 0, (one, two))
                found += block != other
        self.assertGreater(found, 50)

    def test_the_order_is_total(self):
        blocks = [block for size in range(4) for block in all_blocks("a", (), size, 1, 1)]
        chooser = random.Random(2)
        some = chooser.sample(blocks, 60)
        row = sorted(some, key=lambda block: sum(earlier_block(other, block) for other in some))
        self.check_row(*row)

    def test_deep_and_long_blocks(self):
        deep = {word: ((word, 1),) for word in ("break", "continue")}
        for _ in range(40):
            deep = {word: (loop(*block),) for word, block in deep.items()}
        self.check_row(deep["break"], deep["continue"])
        self.check_row((A,) * 199, (A,) * 200, (A,) * 199 + (B,), (A,) * 198 + (B, A))
        long = ("and", (A,) * 197)
        self.check_row((during(long),), (during(("and", (A,) * 196 + (B,))),), (during(("or", (A,) * 197)),))
        self.check_row((when(A, ()),), (when(nots(1), ()),))


if __name__ == "__main__":
    unittest.main()
