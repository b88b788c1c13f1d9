import unittest

from flowform.errors import TextError
from flowform.printer import show_condition, show_program
from flowform.reader import read_condition, read_program
from flowform.tokens import tokens
from tests.helpers import Maker, raised

RESERVED = "let if else while for break continue return try finally true false".split()
GRAMMAR = """
program = items
items =
items = items declaration
items = items statement
declaration = let NAME = value ;
value = true
value = false
statement = ;
statement = block
statement = NAME ( ) ;
statement = NAME = value ;
statement = if ( condition ) body
statement = if ( condition ) body else body
statement = loop
statement = NAME : loop
statement = break ;
statement = break NAME ;
statement = continue ;
statement = continue NAME ;
statement = return ;
statement = return NUMBER ;
statement = try block finally block
loop = while ( condition ) body
loop = for ( ; ; ) body
block = { items }
body = block
body = statement
condition = conjunction
condition = condition || conjunction
conjunction = unary
conjunction = conjunction && unary
unary = ! unary
unary = ( condition )
unary = NAME ( )
unary = NAME
"""
REASONS = {
    ("NAME",): "expected a name",
    ("false", "true"): "expected true or false",
    ("!", "(", "NAME"): "expected a condition",
    ("(", ":", "="): "expected (, = or :",
    ("for", "while"): "expected while or for",
    (";", "NAME"): "expected a label or ;",
    (";", "NUMBER"): "expected a number or ;",
}


def read_rules():
    rules = {}
    for line in GRAMMAR.strip().split("\n"):
        head, _, symbols = line.partition(" = ") if " = " in line else (line[:-2], "=", "")
        rules.setdefault(head, []).append(tuple(symbols.split()))
    return rules


RULES = read_rules()
EMPTY = [head for head in RULES if () in RULES[head]] + ["program"]


class Chart:
    """The sets of Earley's algorithm: items of a head, its symbols, how many of them have been read, and since when."""

    def __init__(self, start):
        self.start = start
        self.sets = []
        self.add_set([(start, symbols, 0, 0) for symbols in RULES[start]])

    def add_set(self, items):
        here = len(self.sets)
        self.sets.append(dict.fromkeys(items))
        waiting = list(items)
        while waiting:
            head, symbols, done, since = waiting.pop()
            if done == len(symbols):
                before = list(self.sets[since])
                new = [(h, s, d + 1, o) for h, s, d, o in before if d < len(s) and s[d] == head]
            elif symbols[done] in RULES:
                new = [(symbols[done], other, 0, here) for other in RULES[symbols[done]]]
                if symbols[done] in EMPTY:
                    new.append((head, symbols, done + 1, since))
            else:
                new = []
            for item in new:
                if item not in self.sets[here]:
                    self.sets[here][item] = None
                    waiting.append(item)

    def expected(self):
        """Return the terminals that can go on here, and $ if the text can end here."""
        found = {symbols[done] for _, symbols, done, _ in self.sets[-1] if done < len(symbols)} - set(RULES)
        whole = [item for item in self.sets[-1] if item[0] == self.start and item[2] == len(item[1]) and item[3] == 0]
        return found | ({"$"} if whole else set())

    def read(self, terminal):
        self.add_set([(h, s, d + 1, o) for h, s, d, o in self.sets[-1] if d < len(s) and s[d] == terminal])


def terminal_of(token):
    kind, text, _ = token
    if kind == "number":
        return "NUMBER"
    return "NAME" if kind == "word" and text not in RESERVED else text


def reason_of(expected, terminal):
    if "let" in expected:
        return "expected }" if terminal == "$" else "expected a statement"
    if "try" in expected:
        return "let is not allowed here" if terminal == "let" else "expected a statement"
    if "&&" in expected:
        return "expected the end" if "$" in expected else "expected )"
    if tuple(sorted(expected)) in REASONS:
        return REASONS[tuple(sorted(expected))]
    (only,) = expected
    return "expected " + only


def first_error(text, start):
    """Return the place and the reason of the first error of the grammar, or None."""
    chart = Chart(start)
    for token in tokens(text) + (("end", "$", len(text)),):
        terminal = terminal_of(token)
        expected = chart.expected()
        if terminal not in expected:
            return (token[2], reason_of(expected, terminal))
        if terminal != "$":
            chart.read(terminal)
    return None


class GrammarTest(unittest.TestCase):
    """Points [61] and [64]: the first token that cannot go on, found by a general recognizer for the grammar."""

    def mutated(self, random, text):
        words = [token[1] for token in tokens(text)]
        others = RESERVED + ["a", "x", "7"] + "&& || ( ) { } ; : = !".split()
        for _ in range(random.randint(0, 2)):
            place = random.randint(0, len(words))
            kind = random.randint(0, 4)
            if kind == 0:
                words = words[:place]
            elif kind == 1:
                words = words[:place] + words[place + 1:]
            elif kind == 2:
                words = words[:place] + [random.choice(others)] + words[place + 1:]
            else:
                words.insert(place, random.choice(others))
        return random.choice([" ", "  ", "\n", "\t\n"]).join(words) + random.choice(["", " ", "\n"])

    def compare(self, text, start, read, reasons):
        expected = first_error(text, start)
        error = raised(read, text)
        found = (error.place, error.reason) if isinstance(error, TextError) else error
        self.assertEqual(found, expected, text)
        reasons[expected and expected[1]] = True

    def test_programs(self):
        maker = Maker(8, ("a", "x"))
        reasons = {}
        for _ in range(2500):
            text = show_program(maker.body(2, 2))
            if len(text) < 150:
                self.compare(self.mutated(maker.random, text), "program", read_program, reasons)
        self.assertEqual(len(reasons), 17, sorted(map(str, reasons)))

    def test_conditions(self):
        maker = Maker(9, ("a", "x"))
        reasons = {}
        for _ in range(1500):
            text = show_condition(maker.condition(2))
            self.compare(self.mutated(maker.random, text), "condition", read_condition, reasons)
        self.assertEqual(sorted(map(str, reasons)), ["None", "expected )", "expected a condition", "expected the end"])

    def test_tokens_behind_every_beginning(self):
        text = ("let f = true; x: while (f && !(a() || f)) { if (f) break x; else { f = false; } } "
                "for (;;) { try { continue; return; } finally { return 7; } } ; x: for (;;) a(); { }")
        others = RESERVED + ["a", "7", ""] + "&& || ( ) { } ; : = !".split()
        pieces = [token[1] for token in tokens(text)]
        reasons = {}
        for length in range(len(pieces)):
            for other in others:
                self.compare(" ".join(pieces[:length] + [other]), "program", read_program, reasons)


if __name__ == "__main__":
    unittest.main()
