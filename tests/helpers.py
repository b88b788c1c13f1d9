"""What several tests share: small builders, and programs made by a seeded generator."""

import random

A = ("call", "a")
B = ("call", "b")
C = ("call", "c")


def raised(function, *arguments):
    """Return the error that the call raises, or None if it raises none."""
    try:
        function(*arguments)
    except ValueError as error:
        return error
    return None


def nested(depth, innermost=(A,)):
    """Return a program whose innermost statements are at the depth."""
    body = innermost
    for level in range(depth):
        if level % 4 == 0:
            body = (("block", body),)
        elif level % 4 == 1:
            body = (("for", None, body),)
        elif level % 4 == 2:
            body = (("if", A, (), body),)
        else:
            body = (("try", (), body),)
    return body


def nots(depth):
    """Return a condition with a part at the depth."""
    condition = A
    for _ in range(depth):
        condition = ("not", condition)
    return condition


class Maker:
    """Makes programs, which need not resolve."""

    def __init__(self, seed, names=("a", "b", "x", "y1", "Long_name", "z" * 30)):
        self.random = random.Random(seed)
        self.names = names

    def name(self):
        return self.random.choice(self.names)

    def condition(self, depth, outside=None):
        kinds = ["call", "flag"]
        if depth > 0:
            kinds += ["not"] + [kind for kind in ("and", "or") if kind != outside]
        kind = self.random.choice(kinds)
        if kind in ("call", "flag"):
            return (kind, self.name())
        if kind == "not":
            return ("not", self.condition(depth - 1))
        many = self.random.randint(2, 3)
        return (kind, tuple(self.condition(depth - 1, kind) for _ in range(many)))

    def body(self, depth, most=3):
        return tuple(self.statement(depth) for _ in range(self.random.randint(0, most)))

    def statement(self, depth):
        kinds = ["call", "let", "set", "break", "continue", "return"]
        if depth > 0:
            kinds += ["if", "if", "while", "for", "try", "block"]
        kind = self.random.choice(kinds)
        if kind == "call":
            return ("call", self.name())
        if kind in ("let", "set"):
            return (kind, self.name(), self.random.random() < 0.5)
        if kind in ("break", "continue"):
            return (kind, self.random.choice([None, self.name()]))
        if kind == "return":
            return ("return", self.random.choice([None, 0, 7, 10, 99]))
        if kind == "if":
            return ("if", self.condition(2), self.body(depth - 1), self.body(depth - 1, 2))
        if kind == "while":
            return ("while", self.random.choice([None, self.name()]), self.condition(2), self.body(depth - 1))
        if kind == "for":
            return ("for", self.random.choice([None, self.name()]), self.body(depth - 1))
        if kind == "try":
            return ("try", self.body(depth - 1), self.body(depth - 1))
        return ("block", self.body(depth - 1))
