"""Reading the texts of programs and conditions."""

from flowform.cursor import Cursor
from flowform.errors import TextError, TooLarge
from flowform.programs import DEEPEST_PART, DEEPEST_STATEMENT, is_too_large, is_too_large_condition


def read_program(text):
    """Return the program that the text denotes."""
    cursor = Cursor(text)
    program = _read_statements(cursor, 0)
    if cursor.peek() != "":
        raise TextError(cursor.where(), "expected a statement")
    if is_too_large(program):
        raise TooLarge("the program is too large")
    return program


def read_condition(text):
    """Return the condition that the text denotes."""
    cursor = Cursor(text)
    condition = _read_disjunction(cursor, 0)
    if cursor.peek() != "":
        raise TextError(cursor.where(), "expected the end")
    if is_too_large_condition(condition):
        raise TooLarge("the condition is too large")
    return condition


def _read_statements(cursor, depth):
    """Read declarations and statements at the depth up to a closing brace or the end of the text."""
    found = []
    while cursor.peek() not in ("", "}"):
        _check_statement_depth(cursor, depth)
        if cursor.peek() == "let":
            found.append(_read_declaration(cursor))
        else:
            found.extend(_read_statement(cursor, depth))
    return tuple(found)


def _check_statement_depth(cursor, depth):
    if depth > DEEPEST_STATEMENT:
        raise TextError(cursor.where(), "nested too deeply")


def _read_declaration(cursor):
    cursor.expect("let")
    if not cursor.has_name():
        raise TextError(cursor.where(), "expected a name")
    name = cursor.advance()
    cursor.expect("=")
    value = _read_value(cursor)
    cursor.expect(";")
    return ("let", name, value)


def _read_value(cursor):
    if cursor.take("true"):
        return True
    if cursor.take("false"):
        return False
    raise TextError(cursor.where(), "expected true or false")


def _read_statement(cursor, depth):
    """Return what a statement at the depth denotes: a tuple of one statement, or of none for an empty one."""
    word = cursor.peek()
    if cursor.take(";"):
        return ()
    if word == "{":
        return (("block", _read_block(cursor, depth + 1)),)
    if word == "if":
        return (_read_if(cursor, depth),)
    if word in ("while", "for"):
        return (_read_loop(cursor, None, depth),)
    if word in ("break", "continue"):
        return (_read_jump(cursor),)
    if word == "return":
        return (_read_return(cursor),)
    if word == "try":
        return (_read_try(cursor, depth),)
    if cursor.has_name():
        return (_read_named(cursor, depth),)
    raise TextError(cursor.where(), "expected a statement")


def _read_block(cursor, depth):
    """Return the statements at the depth that stand in a block."""
    cursor.expect("{")
    found = _read_statements(cursor, depth)
    cursor.expect("}")
    return found


def _read_body(cursor, depth):
    """Return the body whose statements are at the depth: a block, or a single statement."""
    if cursor.peek() == "{":
        return _read_block(cursor, depth)
    _check_statement_depth(cursor, depth)
    if cursor.peek() == "let":
        raise TextError(cursor.where(), "let is not allowed here")
    return _read_statement(cursor, depth)


def _read_if(cursor, depth):
    cursor.expect("if")
    condition = _read_condition_in_parentheses(cursor)
    first = _read_body(cursor, depth + 1)
    second = ()
    if cursor.take("else"):
        second = _read_body(cursor, depth + 1)
    return ("if", condition, first, second)


def _read_loop(cursor, label, depth):
    if cursor.take("while"):
        condition = _read_condition_in_parentheses(cursor)
        return ("while", label, condition, _read_body(cursor, depth + 1))
    for text in ("for", "(", ";", ";", ")"):
        cursor.expect(text)
    return ("for", label, _read_body(cursor, depth + 1))


def _read_jump(cursor):
    word = cursor.advance()
    if cursor.take(";"):
        return (word, None)
    if not cursor.has_name():
        raise TextError(cursor.where(), "expected a label or ;")
    label = cursor.advance()
    cursor.expect(";")
    return (word, label)


def _read_return(cursor):
    cursor.expect("return")
    if cursor.take(";"):
        return ("return", None)
    if not cursor.peek().isdigit():
        raise TextError(cursor.where(), "expected a number or ;")
    number = int(cursor.advance())
    cursor.expect(";")
    return ("return", number)


def _read_try(cursor, depth):
    cursor.expect("try")
    body = _read_block(cursor, depth + 1)
    cursor.expect("finally")
    return ("try", body, _read_block(cursor, depth + 1))


def _read_named(cursor, depth):
    """Return the call, the set or the loop that begins with a name."""
    name = cursor.advance()
    if cursor.take("("):
        cursor.expect(")")
        cursor.expect(";")
        return ("call", name)
    if cursor.take("="):
        value = _read_value(cursor)
        cursor.expect(";")
        return ("set", name, value)
    if not cursor.take(":"):
        raise TextError(cursor.where(), "expected (, = or :")
    if cursor.peek() not in ("while", "for"):
        raise TextError(cursor.where(), "expected while or for")
    return _read_loop(cursor, name, depth)


def _read_condition_in_parentheses(cursor):
    cursor.expect("(")
    condition = _read_disjunction(cursor, 0)
    cursor.expect(")")
    return condition


def _read_disjunction(cursor, depth):
    parts = [_read_conjunction(cursor, depth)]
    while cursor.take("||"):
        parts.append(_read_conjunction(cursor, depth))
    return _joined("or", parts)


def _read_conjunction(cursor, depth):
    parts = [_read_unary(cursor, depth)]
    while cursor.take("&&"):
        parts.append(_read_unary(cursor, depth))
    return _joined("and", parts)


def _joined(kind, parts):
    """Return the chain of the parts, or the only part; chains of the same kind among the parts are joined to it."""
    if len(parts) == 1:
        return parts[0]
    found = []
    for part in parts:
        if part[0] == kind:
            found.extend(part[1])
        else:
            found.append(part)
    return (kind, tuple(found))


def _read_unary(cursor, depth):
    if cursor.peek() in ("!", "(") and depth == DEEPEST_PART:
        raise TextError(cursor.where(), "nested too deeply")
    if cursor.take("!"):
        return ("not", _read_unary(cursor, depth + 1))
    if cursor.take("("):
        condition = _read_disjunction(cursor, depth + 1)
        cursor.expect(")")
        return condition
    if not cursor.has_name():
        raise TextError(cursor.where(), "expected a condition")
    name = cursor.advance()
    if cursor.take("("):
        cursor.expect(")")
        return ("call", name)
    return ("flag", name)
