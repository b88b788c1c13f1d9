"""What several tests share: small builders, programs made by seeded generators, and a plain interpreter."""

import itertools
import random

from flowform.flows import flow_graph
from flowform.names import resolve
from flowform.reader import read_program

A = ("call", "a")
B = ("call", "b")
C = ("call", "c")
BREAK = ("break", 1)
CONTINUE = ("continue", 1)
STOP = ("stop", "return")


def when(condition, first, second=()):
    return ("if", condition, first, second)


def loop(*body):
    return ("for", None, body)


def during(condition, *body):
    return ("while", None, condition, body)


def flow(text):
    """Return the flow graph of the program that the text denotes."""
    return flow_graph(read_program(text))


def raised(function, *arguments):
    """Return the error that the call raises, or None if it raises none."""
    try:
        function(*arguments)
    except ValueError as error:
        return error
    return None


def nested(depth, innermost=(A,)):
    """Return a program whose innermost statements are at the depth."""
    body = innermost
    for level in range(depth):
        if level % 4 == 0:
            body = (("block", body),)
        elif level % 4 == 1:
            body = (("for", None, body),)
        elif level % 4 == 2:
            body = (("if", A, (), body),)
        else:
            body = (("try", (), body),)
    return body


def nots(depth):
    """Return a condition with a part at the depth."""
    condition = A
    for _ in range(depth):
        condition = ("not", condition)
    return condition


class Maker:
    """Makes programs, which need not resolve."""

    def __init__(self, seed, names=("a", "b", "x", "y1", "Long_name", "z" * 30)):
        self.random = random.Random(seed)
        self.names = names

    def name(self):
        return self.random.choice(self.names)

    def condition(self, depth, outside=None):
        kinds = ["call", "flag"]
        if depth > 0:
            kinds += ["not"] + [kind for kind in ("and", "or") if kind != outside]
        kind = self.random.choice(kinds)
        if kind in ("call", "flag"):
            return (kind, self.name())
        if kind == "not":
            return ("not", self.condition(depth - 1))
        many = self.random.randint(2, 3)
        return (kind, tuple(self.condition(depth - 1, kind) for _ in range(many)))

    def body(self, depth, most=3):
        return tuple(self.statement(depth) for _ in range(self.random.randint(0, most)))

    def statement(self, depth):
        kinds = ["call", "let", "set", "break", "continue", "return"]
        if depth > 0:
            kinds += ["if", "if", "while", "for", "try", "block"]
        kind = self.random.choice(kinds)
        if kind == "call":
            return ("call", self.name())
        if kind in ("let", "set"):
            return (kind, self.name(), self.random.random() < 0.5)
        if kind in ("break", "continue"):
            return (kind, self.random.choice([None, self.name()]))
        if kind == "return":
            return ("return", self.random.choice([None, 0, 7, 10, 99]))
        if kind == "if":
            return ("if", self.condition(2), self.body(depth - 1), self.body(depth - 1, 2))
        if kind == "while":
            return ("while", self.random.choice([None, self.name()]), self.condition(2), self.body(depth - 1))
        if kind == "for":
            return ("for", self.random.choice([None, self.name()]), self.body(depth - 1))
        if kind == "try":
            return ("try", self.body(depth - 1), self.body(depth - 1))
        return ("block", self.body(depth - 1))


def read(text):
    """Return the resolved program that the text denotes."""
    return resolve(read_program(text))


def answers(letters):
    """Return the row of answers that the letters T and F stand for."""
    return tuple(letter == "T" for letter in letters)


def rows_of_answers(most):
    """Return all rows of at most so many answers, in the order of [110]."""
    return [row for many in range(most + 1) for row in itertools.product((True, False), repeat=many)]


class ResolvedMaker:
    """Makes resolved programs in which all jumps have a loop to lead to, and no try stands in the last of a try."""

    def __init__(self, seed, flags=2, tries=True, names="abc"):
        self.random = random.Random(seed)
        self.flags = flags
        self.tries = tries
        self.names = names

    def condition(self, depth, outside=None):
        kinds = ["call", "call"] + ["flag"] * (self.flags > 0)
        if depth > 0:
            kinds += ["not"] + [kind for kind in ("and", "or") if kind != outside]
        kind = self.random.choice(kinds)
        if kind == "call":
            return ("call", self.random.choice(self.names))
        if kind == "flag":
            return ("flag", self.random.randrange(self.flags))
        if kind == "not":
            return ("not", self.condition(depth - 1))
        return (kind, tuple(self.condition(depth - 1, kind) for _ in range(self.random.randint(2, 3))))

    def body(self, depth, loops=0, tries=None):
        tries = self.tries if tries is None else tries
        return tuple(self.statement(depth, loops, tries) for _ in range(self.random.randint(0, 3)))

    def statement(self, depth, loops, tries):
        kinds = ["call", "call", "stop"] + ["set"] * (self.flags > 0) + ["break", "continue"] * (loops > 0)
        if depth > 0:
            kinds += ["if", "if", "if", "while", "while", "for"] + ["try", "try"] * tries
        kind = self.random.choice(kinds)
        if kind == "call":
            return ("call", self.random.choice(self.names))
        if kind == "set":
            return ("set", self.random.randrange(self.flags), self.random.random() < 0.5)
        if kind in ("break", "continue"):
            return (kind, self.random.randint(1, loops))
        if kind == "stop":
            return ("stop", self.random.choice(["return", "return 7", "break x", "continue x"]))
        if kind == "if":
            first = self.body(depth - 1, loops, tries)
            return ("if", self.condition(2), first, self.body(depth - 1, loops, tries))
        if kind == "while":
            return ("while", None, self.condition(2), self.body(depth - 1, loops + 1, tries))
        if kind == "for":
            return ("for", None, self.body(depth - 1, loops + 1, tries))
        return ("try", self.body(depth - 1, loops, tries), self.body(depth - 1, loops, False))


def with_names(resolved, flags=4):
    """Return a program with the behaviour of the resolved one: each loop has a label, and each jump has one."""
    declarations = tuple(("let", f"f{number}", False) for number in range(flags))
    return declarations + tuple(_named_statement(statement, 0) for statement in resolved)


def _named_body(body, loops):
    return tuple(_named_statement(statement, loops) for statement in body)


def _named_condition(condition):
    kind, inner = condition
    if kind == "flag":
        return ("flag", f"f{inner}")
    if kind == "not":
        return ("not", _named_condition(inner))
    return condition if kind == "call" else (kind, tuple(_named_condition(part) for part in inner))


def _named_statement(statement, loops):
    kind = statement[0]
    if kind == "set":
        return ("set", f"f{statement[1]}", statement[2])
    if kind == "if":
        first = _named_body(statement[2], loops)
        return ("if", _named_condition(statement[1]), first, _named_body(statement[3], loops))
    if kind == "while":
        return ("while", f"l{loops}", _named_condition(statement[2]), _named_body(statement[3], loops + 1))
    if kind == "for":
        return ("for", f"l{loops}", _named_body(statement[2], loops + 1))
    if kind == "try":
        return ("try", _named_body(statement[1], loops), _named_body(statement[2], loops))
    if kind in ("break", "continue"):
        return (kind, f"l{loops - statement[1]}")
    if kind == "stop":
        word, _, rest = statement[1].partition(" ")
        if word == "return":
            return ("return", int(rest) if rest else None)
        return (word, rest)
    return statement


class Waiting(Exception):
    """A call is about to be made for which there is no answer."""


class Hangs(Exception):
    """A run goes on forever without another call."""


class Interpreter:
    """Executes a resolved program statement by statement, as [80] to [82] say it, with the configurations of [90]."""

    def __init__(self, answers, most_rounds=5000):
        self.answers = answers
        self.most_rounds = most_rounds
        self.events = []
        self.flags = [False] * 4
        self.completion = "outside of a last"
        self.rounds = 0
        self.configuration = None

    def run(self, resolved):
        """Return the events; after this, configuration is where the run has come to."""
        try:
            completion = self.body(resolved, ())
            outcome = "end" if completion is None else completion[1]
        except Hangs:
            outcome = "hang"
        except Waiting:
            return tuple(self.events)
        self.configuration = ("outcome", outcome)
        return tuple(self.events) + (outcome,)

    def call(self, name, place):
        self.events.append(name + "()")
        made = len(self.events) - 1
        if made == len(self.answers):
            self.configuration = ("call", name, place, tuple(self.flags), self.completion)
            raise Waiting
        self.rounds = 0
        return self.answers[made]

    def condition(self, condition, place):
        kind, inner = condition
        if kind == "call":
            return self.call(inner, place)
        if kind == "flag":
            return self.flags[inner]
        if kind == "not":
            return not self.condition(inner, place + ("not",))
        for number, part in enumerate(inner):
            value = self.condition(part, place + (number,))
            if value != (kind == "and"):
                return value
        return kind == "and"

    def body(self, body, place):
        for number, statement in enumerate(body):
            completion = self.statement(statement, place + (number,))
            if completion is not None:
                return completion
        return None

    def statement(self, statement, place):
        kind = statement[0]
        if kind == "call":
            self.call(statement[1], place)
        elif kind == "set":
            self.flags[statement[1]] = statement[2]
        elif kind == "if":
            number = 2 if self.condition(statement[1], place + ("condition",)) else 3
            return self.body(statement[number], place + (number,))
        elif kind in ("while", "for"):
            return self.loop(statement, place)
        elif kind == "try":
            completion = self.body(statement[1], place + (1,))
            self.completion = completion
            other = self.body(statement[2], place + (2,))
            self.completion = "outside of a last"
            return completion if other is None else other
        else:
            return statement
        return None

    def loop(self, loop, place):
        while True:
            self.rounds += 1
            if self.rounds > self.most_rounds:
                raise Hangs
            if loop[0] == "while" and not self.condition(loop[2], place + ("condition",)):
                return None
            completion = self.body(loop[-1], place + (3,))
            if completion is None or completion == ("continue", 1):
                continue
            if completion == ("break", 1):
                return None
            if completion[0] in ("break", "continue"):
                return (completion[0], completion[1] - 1)
            return completion


def plain_events(resolved, answers):
    """Return the events of a run of the resolved program."""
    return Interpreter(answers).run(resolved)


def plain_explored(resolved):
    """Return what [91] says of the configurations, each found by a run of its own; None if there are very many."""
    rows = {}
    followers = {}
    waiting = [((), None)]
    while waiting:
        row, before = waiting.pop(0)
        one = Interpreter(row)
        one.run(resolved)
        if before is not None:
            followers[before] += (one.configuration,)
        if one.configuration not in rows:
            rows[one.configuration] = row
            followers[one.configuration] = ()
            if one.configuration[0] == "call":
                waiting += [(row + (True,), one.configuration), (row + (False,), one.configuration)]
        if len(rows) > 200:
            return None
    order = [key for kind in ("call", "outcome") for key in rows if key[0] == kind]
    return tuple(key[:2] + tuple(order.index(other) for other in followers[key]) for key in order)


def all_graphs(many, names, outcomes):
    """Return all flow graphs with so many nodes, these names of calls and these outcomes."""
    numbers = range(many)
    nodes = [("call", name, one, other) for name in names for one in numbers for other in numbers]
    nodes += [("outcome", outcome) for outcome in outcomes]
    return list(itertools.product(nodes, repeat=many))


def random_graph(seed, many, names="ab", outcomes=("end", "hang")):
    """Return a flow graph with so many nodes in which equivalent nodes are likely."""
    chooser = random.Random(seed)
    nodes = []
    for _ in range(many):
        if chooser.random() < 0.3:
            nodes.append(("outcome", chooser.choice(outcomes)))
        else:
            nodes.append(("call", chooser.choice(names), chooser.randrange(many), chooser.randrange(many)))
    return tuple(nodes)


def plain_classes(graph):
    """Return what [102] says of the classes, by the pairs of nodes that are told apart."""
    many = len(graph)
    apart = {(one, other) for one in range(many) for other in range(many) if graph[one][:2] != graph[other][:2]}
    before = -1
    while len(apart) > before:
        before = len(apart)
        for one in range(many):
            for other in range(many):
                if any(pair in apart for pair in zip(graph[one][2:], graph[other][2:])):
                    apart.add((one, other))
    found = {tuple(other for other in range(many) if (one, other) not in apart) for one in range(many)}
    return tuple(sorted(found))
