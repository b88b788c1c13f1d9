"""The tokens of a text."""

from flowform.errors import TextError
from flowform.words import DIGITS, LETTERS, LONGEST_NAME, WORD_CHARACTERS, is_number

BLANKS = " \n\t"
SINGLE_SYMBOLS = "(){};:=!"
DOUBLE_SYMBOLS = ("&&", "||")


def tokens(text):
    """Return the tokens of the text, each as a tuple of its kind, its text and its place."""
    found = []
    place = 0
    while place < len(text):
        if text[place] in BLANKS:
            place += 1
        else:
            token = _token_at(text, place)
            found.append(token)
            place += len(token[1])
    return tuple(found)


def _token_at(text, place):
    first = text[place]
    if first in LETTERS:
        word = _run_of(WORD_CHARACTERS, text, place)
        if len(word) > LONGEST_NAME:
            raise TextError(place, "word too long")
        return ("word", word, place)
    if first in DIGITS:
        digits = _run_of(DIGITS, text, place)
        if not is_number(digits):
            raise TextError(place, "invalid number")
        return ("number", digits, place)
    if first in SINGLE_SYMBOLS:
        return ("symbol", first, place)
    if text[place:place + 2] in DOUBLE_SYMBOLS:
        return ("symbol", text[place:place + 2], place)
    raise TextError(place, "unexpected character")


def _run_of(characters, text, place):
    """Return the longest part of the text from the place on that consists of the characters."""
    end = place
    while end < len(text) and text[end] in characters:
        end += 1
    return text[place:end]
