"""The order of blocks."""

from flowform.conditions import condition_key
from flowform.programs import bodies, size, whole_conditions

# The kinds of statements and of outcomes in their orders.
STATEMENT_KINDS = ("break", "continue", "stop", "call", "if", "while", "for")
OUTCOME_KINDS = ("return", "break", "continue")


def earlier_block(first, second):
    """Return True if the first block comes before the second one."""
    return block_key(first) < block_key(second)


def block_key(block):
    """Return by what blocks are ordered: a tuple of the size, the number of statements and their keys."""
    return (size(block), len(block), *[statement_key(statement) for statement in block])


def statement_key(statement):
    """Return by what statements are ordered: a tuple that begins with the size and the kind."""
    kind = statement[0]
    start = (size((statement,)), STATEMENT_KINDS.index(kind))
    if kind == "stop":
        return (*start, _outcome_key(statement[1]))
    if kind in ("break", "continue", "call"):
        return (*start, statement[1])
    conditions = [condition_key(condition) for condition in whole_conditions(statement)]
    return (*start, *conditions, *[block_key(body) for body in bodies(statement)])


def _outcome_key(outcome):
    """Return by what the outcomes of stops are ordered."""
    word, _, rest = outcome.partition(" ")
    if word == "return" and rest:
        return (OUTCOME_KINDS.index(word), 1 + int(rest), "")
    return (OUTCOME_KINDS.index(word), 0, rest)
