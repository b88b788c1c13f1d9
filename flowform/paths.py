"""The paths of statements in programs and in resolved programs."""

from flowform.errors import NoStatement, TooLarge
from flowform.programs import bodies, is_too_large, with_bodies


def walk(program):
    """Yield the path and the statement of all statements of the program, in the order of the program."""
    yield from _walk_body(program, ())


def _walk_body(body, before):
    for number, statement in enumerate(body):
        path = (*before, number)
        yield (path, statement)
        for inner_number, inner in enumerate(bodies(statement)):
            inner_before = (*path, inner_number)
            yield from _walk_body(inner, inner_before)


def statement_at(program, path):
    """Return the statement at the path, or None if there is none."""
    if len(path) % 2 == 0 or path[0] >= len(program):
        return None
    statement = program[path[0]]
    if len(path) == 1:
        return statement
    inner = bodies(statement)
    if path[1] >= len(inner):
        return None
    return statement_at(inner[path[1]], path[2:])


def replaced(program, path, statements):
    """Return the program with the statements in place of the statement at the path."""
    if statement_at(program, path) is None:
        raise NoStatement("there is no statement at the path")
    result = _with_statements(program, path, statements)
    if is_too_large(result):
        raise TooLarge("the program would be too large")
    return result


def _with_statements(body, path, statements):
    number = path[0]
    if len(path) == 1:
        return body[:number] + statements + body[number + 1:]
    statement = body[number]
    inner = bodies(statement)
    changed = _with_statements(inner[path[1]], path[2:], statements)
    inner = inner[:path[1]] + (changed,) + inner[path[1] + 1:]
    return body[:number] + (with_bodies(statement, inner),) + body[number + 1:]
