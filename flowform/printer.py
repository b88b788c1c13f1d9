"""The printed form of programs and conditions."""

INDENT = "  "
SIGNS = {"and": " && ", "or": " || "}


def show_program(program):
    """Return the printed form of the program."""
    return "".join([line + "\n" for line in _body_lines(program, "")])


def show_condition(condition):
    """Return the printed form of the condition."""
    kind, inner = condition
    if kind == "call":
        return inner + "()"
    if kind == "flag":
        return inner
    if kind == "not":
        return "!" + _shown_inside(inner, ("and", "or"))
    # A chain of the same kind does not stand in a chain, and an "and" in an "or" needs no parentheses.
    sign = SIGNS[kind]
    return sign.join([_shown_inside(part, ("or",)) for part in inner])


def _shown_inside(condition, kinds):
    """Return the printed form of a condition, in parentheses if it is of one of the kinds."""
    if condition[0] in kinds:
        return "(" + show_condition(condition) + ")"
    return show_condition(condition)


def _body_lines(body, indent):
    lines = []
    for statement in body:
        lines.extend(_statement_lines(statement, indent))
    return lines


def _statement_lines(statement, indent):
    kind = statement[0]
    if kind == "if":
        return _if_lines(statement, indent)
    if kind == "while":
        head = _shown_label(statement[1]) + "while (" + show_condition(statement[2]) + ") {"
        return _braced_lines(head, statement[3], indent)
    if kind == "for":
        return _braced_lines(_shown_label(statement[1]) + "for (;;) {", statement[2], indent)
    if kind == "block":
        return _braced_lines("{", statement[1], indent)
    if kind == "try":
        lines = [indent + "try {"]
        lines.extend(_body_lines(statement[1], indent + INDENT))
        lines.extend(_braced_lines("} finally {", statement[2], indent))
        return lines
    return [indent + _shown_simple(statement) + ";"]


def _braced_lines(head, body, indent):
    """Return the lines from the head to the brace that closes the body behind it."""
    return [indent + head] + _body_lines(body, indent + INDENT) + [indent + "}"]


def _if_lines(statement, indent):
    lines = []
    head = "if ("
    while True:
        _, condition, first, second = statement
        lines.append(indent + head + show_condition(condition) + ") {")
        lines.extend(_body_lines(first, indent + INDENT))
        if len(second) != 1 or second[0][0] != "if":
            break
        head = "} else if ("
        statement = second[0]
    if second:
        lines.extend(_braced_lines("} else {", second, indent))
    else:
        lines.append(indent + "}")
    return lines


def _shown_label(label):
    if label is None:
        return ""
    return label + ": "


def _shown_simple(statement):
    """Return a statement without bodies as it is written in front of its semicolon."""
    kind, worth = statement[0], statement[1]
    if kind == "call":
        return worth + "()"
    if kind == "set":
        return worth + " = " + _shown_value(statement[2])
    if kind == "let":
        return "let " + worth + " = " + _shown_value(statement[2])
    if worth is None:
        return kind
    return f"{kind} {worth}"


def _shown_value(value):
    if value:
        return "true"
    return "false"
