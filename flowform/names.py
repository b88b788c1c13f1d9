"""The meaning of the names of flags and labels."""

from flowform.errors import FlagTwice, OutsideOfLoop, TooManyFlags, TryInFinally, UnknownFlag
from flowform.paths import walk

MOST_FLAGS = 4


def resolve(program):
    """Return the resolved program of a program."""
    resolver = Resolver()
    resolved = resolver.resolved_body(program, {}, ())
    if resolver.declared > MOST_FLAGS:
        raise TooManyFlags(resolver.declared)
    if _has_try_in_last(resolved):
        raise TryInFinally("a try stands in the last body of another one")
    return resolved


class Resolver:
    """Counts the declarations while a program is resolved in its order."""

    def __init__(self):
        self.declared = 0

    def resolved_body(self, body, outer, labels):
        """Return the resolved statements of a body.

        outer gives the numbers of the flags that are visible where the body begins; labels are those of
        the loops around, the innermost one first.
        """
        # The copy ends with the body, and with it the visibility of the flags that are declared there.
        visible = dict(outer)
        own_names = []
        resolved = []
        for statement in body:
            if statement[0] == "let":
                _, name, value = statement
                if name in own_names:
                    raise FlagTwice(name)
                own_names.append(name)
                visible[name] = self.declared
                resolved.append(("set", self.declared, value))
                self.declared += 1
            elif statement[0] == "block":
                resolved.extend(self.resolved_body(statement[1], visible, labels))
            else:
                resolved.append(self.resolved_statement(statement, visible, labels))
        return tuple(resolved)

    def resolved_statement(self, statement, visible, labels):
        """Return the resolved statement of one that is neither a declaration nor a block statement."""
        kind = statement[0]
        if kind == "set":
            return ("set", _flag_number(statement[1], visible), statement[2])
        if kind == "return":
            return ("stop", "return" if statement[1] is None else f"return {statement[1]}")
        if kind in ("break", "continue"):
            return _resolved_jump(statement, labels)
        if kind == "if":
            condition = _resolved_condition(statement[1], visible)
            first = self.resolved_body(statement[2], visible, labels)
            second = self.resolved_body(statement[3], visible, labels)
            return ("if", condition, first, second)
        if kind == "while":
            condition = _resolved_condition(statement[2], visible)
            return ("while", None, condition, self.resolved_body(statement[3], visible, (statement[1], *labels)))
        if kind == "for":
            return ("for", None, self.resolved_body(statement[2], visible, (statement[1], *labels)))
        if kind == "try":
            body = self.resolved_body(statement[1], visible, labels)
            return ("try", body, self.resolved_body(statement[2], visible, labels))
        return statement


def _flag_number(name, visible):
    if name not in visible:
        raise UnknownFlag(name)
    return visible[name]


def _resolved_condition(condition, visible):
    kind, inner = condition
    if kind == "call":
        return condition
    if kind == "flag":
        return ("flag", _flag_number(inner, visible))
    if kind == "not":
        return ("not", _resolved_condition(inner, visible))
    return (kind, tuple([_resolved_condition(part, visible) for part in inner]))


def _resolved_jump(statement, labels):
    word, label = statement
    if label is None:
        if not labels:
            raise OutsideOfLoop(word)
        return (word, 1)
    if label in labels:
        return (word, labels.index(label) + 1)
    return ("stop", f"{word} {label}")


def _has_try_in_last(resolved):
    for _, statement in walk(resolved):
        if statement[0] == "try" and _has_try(statement[2]):
            return True
    return False


def _has_try(body):
    return any([statement[0] == "try" for _, statement in walk(body)])


def jump_depth(resolved):
    """Return the greatest number of a break or continue, or 0 if there are none."""
    return max([statement[1] for _, statement in walk(resolved) if statement[0] in ("break", "continue")], default=0)
