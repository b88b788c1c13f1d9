"""Resolved programs in which copies of the last bodies stand in place of try."""

from flowform.errors import TooLarge
from flowform.programs import bodies, is_too_large, with_bodies


def without_try(resolved):
    """Return a resolved program without try that has the same behaviour."""
    found = []
    for statement in resolved:
        inner = tuple([without_try(part) for part in bodies(statement)])
        if statement[0] == "try":
            body, last = inner
            found.extend(_with_copies(body, last, 0) + last)
        else:
            found.append(with_bodies(statement, inner))
    result = tuple(found)
    # All that is in the result for a body stays in the result for the whole program, so that this one is too
    # large as well. Without this test the inner copies could be far too many.
    if is_too_large(result):
        raise TooLarge("the program without try would be too large")
    return result


def _with_copies(body, last, loops):
    """Return a part of the body of a try with copies of last in front of what leaves this body.

    loops is the number of the loops around the part inside of the body of the try.
    """
    found = []
    for statement in body:
        if statement[0] == "stop" or _leads_out(statement, loops):
            found.extend(_led_further(last, 0, loops))
            found.append(statement)
        else:
            inner = [_with_copies(part, last, _loops_inside(statement, loops)) for part in bodies(statement)]
            found.append(with_bodies(statement, tuple(inner)))
    return tuple(found)


def _led_further(body, loops, more):
    """Return a part of last in which the jumps that lead out of last lead to a loop that is further out.

    loops is the number of the loops around the part inside of last.
    """
    found = []
    for statement in body:
        if _leads_out(statement, loops):
            found.append((statement[0], statement[1] + more))
        else:
            inner = [_led_further(part, _loops_inside(statement, loops), more) for part in bodies(statement)]
            found.append(with_bodies(statement, tuple(inner)))
    return tuple(found)


def _leads_out(statement, loops):
    """Return True if the statement is a jump that leads further out than all of these loops around it."""
    return statement[0] in ("break", "continue") and statement[1] > loops


def _loops_inside(statement, loops):
    """Return the number of the loops around the bodies of a statement that has these loops around it."""
    if statement[0] in ("while", "for"):
        return loops + 1
    return loops
