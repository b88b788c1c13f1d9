"""The parts of programs and of resolved programs, and how many and how deep they are."""

# The bodies of a statement are the last items of its tuple; statements that are not here have none.
BODY_COUNTS = {"if": 2, "while": 1, "for": 1, "try": 2, "block": 1}

# Statements that are not here have the size 1.
OWN_SIZES = {"try": 2, "block": 0}

MOST_PLACES = 200
DEEPEST_STATEMENT = 40
MOST_PARTS = 60
DEEPEST_PART = 20


def bodies(statement):
    """Return the tuple of the bodies inside of a statement, in the order of their numbers."""
    return statement[len(statement) - BODY_COUNTS.get(statement[0], 0):]


def with_bodies(statement, inner):
    """Return the statement with other bodies, as many as it has."""
    return statement[:len(statement) - len(inner)] + inner


def whole_conditions(statement):
    """Return the tuple of the condition that stands directly in a statement, or the empty tuple."""
    if statement[0] == "if":
        return (statement[1],)
    if statement[0] == "while":
        return (statement[2],)
    return ()


def operands(condition):
    """Return the tuple of the conditions that stand directly in a condition."""
    if condition[0] == "not":
        return (condition[1],)
    if condition[0] in ("and", "or"):
        return condition[1]
    return ()


def size(program):
    """Return the size of a program."""
    return sum([_statement_size(statement) for statement in program])


def _statement_size(statement):
    total = OWN_SIZES.get(statement[0], 1)
    if statement[0] == "if" and _has_more_than_blocks(statement[3]):
        total += 1
    total += sum([_condition_size(condition) for condition in whole_conditions(statement)])
    return total + sum([size(body) for body in bodies(statement)])


def _has_more_than_blocks(body):
    return any([statement[0] != "block" or _has_more_than_blocks(statement[1]) for statement in body])


def _condition_size(condition):
    if condition[0] in ("call", "flag"):
        return 1
    return sum([_condition_size(part) for part in operands(condition)])


def places(program):
    """Return the number of places of a program."""
    return sum([_statement_places(statement) for statement in program])


def _statement_places(statement):
    parts = sum([part_count(condition) for condition in whole_conditions(statement)])
    return 1 + parts + sum([places(body) for body in bodies(statement)])


def part_count(condition):
    """Return the number of the parts of a condition."""
    return 1 + sum([part_count(part) for part in operands(condition)])


def depths(program):
    """Return the greatest depth of a statement and that of a part of a condition, 0 where there is none."""
    return (max(0, _levels(program) - 1), _program_part_depth(program))


def _levels(body):
    """Return how many statements of the body stand inside of each other at the most."""
    deepest = 0
    for statement in body:
        inner = [_levels(part) for part in bodies(statement)]
        deepest = max(deepest, 1 + max(inner, default=0))
    return deepest


def _program_part_depth(body):
    deepest = 0
    for statement in body:
        for condition in whole_conditions(statement):
            deepest = max(deepest, part_depth(condition))
        for inner in bodies(statement):
            deepest = max(deepest, _program_part_depth(inner))
    return deepest


def part_depth(condition):
    """Return the greatest depth of a part of a condition."""
    return max([1 + part_depth(part) for part in operands(condition)], default=0)


def is_too_large(program):
    """Return True if a program has too many places or is too deep."""
    statement_depth, condition_depth = depths(program)
    if statement_depth > DEEPEST_STATEMENT or condition_depth > DEEPEST_PART:
        return True
    return places(program) > MOST_PLACES


def is_too_large_condition(condition):
    """Return True if a condition by itself has too many parts or is too deep."""
    return part_count(condition) > MOST_PARTS or part_depth(condition) > DEEPEST_PART
