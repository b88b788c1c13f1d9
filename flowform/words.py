"""Names, reserved words, numbers and outcomes."""

LETTERS = "abcdefghijklmnopqrstuvwxyzABCDEFGHIJKLMNOPQRSTUVWXYZ"
DIGITS = "0123456789"
WORD_CHARACTERS = "abcdefghijklmnopqrstuvwxyzABCDEFGHIJKLMNOPQRSTUVWXYZ_0123456789"
LONGEST_NAME = 30
RESERVED = (
    "let", "if", "else", "while", "for", "break", "continue", "return", "try", "finally", "true", "false",
)


def is_name(text):
    """Return True if the text is a name."""
    if not 1 <= len(text) <= LONGEST_NAME or text in RESERVED:
        return False
    return text[0] in LETTERS and all([character in WORD_CHARACTERS for character in text])


def is_number(text):
    """Return True if the text is a number from 0 to 99 without needless zeros in front."""
    if not 1 <= len(text) <= 2 or not all([character in DIGITS for character in text]):
        return False
    return len(text) == 1 or text[0] != "0"


def is_outcome(text):
    """Return True if the text is an outcome."""
    if text in ("end", "return", "hang"):
        return True
    word, _, rest = text.partition(" ")
    if word == "return":
        return is_number(rest)
    return word in ("break", "continue") and is_name(rest)
