"""Programs for resolved programs without flags and try."""

from flowform.paths import walk
from flowform.programs import bodies, with_bodies

LOOPS = ("while", "for")
JUMPS = ("break", "continue")


def named(resolved):
    """Return a program that is resolved to the given one, with labels only where they are needed."""
    return _named_body(resolved, (), _labels(resolved), ())


def _labels(resolved):
    """Return a dict with the labels of the loops that have one, by their paths."""
    loops = {}
    needed = {}
    outside = []
    for path, statement in walk(resolved):
        if statement[0] in LOOPS:
            loops[path] = True
        elif statement[0] in JUMPS and statement[1] > 1:
            needed[_loops_around(path, loops)[statement[1] - 1]] = True
        elif statement[0] == "stop":
            outside.append(statement[1].partition(" ")[2])
    labels = {}
    number = 0
    for path in loops:
        if path in needed:
            number += 1
            while f"loop{number}" in outside:
                number += 1
            labels[path] = f"loop{number}"
    return labels


def _loops_around(path, loops):
    """Return a list of the paths of the loops around the statement at a path, the innermost one first."""
    outer = [path[:end] for end in range(len(path) - 2, 0, -2)]
    return [one for one in outer if one in loops]


def _named_body(body, before, labels, around):
    """Return the statements of a body with names.

    The paths of the statements begin with before; around are the labels of the loops around, or None for
    those that have none, the innermost one first.
    """
    return tuple([_named(statement, (*before, number), labels, around) for number, statement in enumerate(body)])


def _named(statement, path, labels, around):
    kind = statement[0]
    if kind == "stop":
        return _named_stop(statement[1])
    if kind in JUMPS:
        return (kind, None if statement[1] == 1 else around[statement[1] - 1])
    if kind in LOOPS:
        statement = (kind, labels.get(path), *statement[2:])
        around = (labels.get(path), *around)
    inner = [_named_body(body, (*path, number), labels, around) for number, body in enumerate(bodies(statement))]
    return with_bodies(statement, tuple(inner))


def _named_stop(outcome):
    word, _, rest = outcome.partition(" ")
    if word != "return":
        return (word, rest)
    return ("return", int(rest) if rest else None)
