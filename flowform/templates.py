"""Programs that are put together from strings and programs."""

from flowform.printer import show_program
from flowform.reader import read_program


def fill(strings, parts):
    """Return the program of the template that consists of the strings and, between them, the parts."""
    pieces = [strings[0]]
    for part, text in zip(parts, strings[1:]):
        pieces.append("{\n" + show_program(part) + "}")
        pieces.append(text)
    return read_program("".join(pieces))
