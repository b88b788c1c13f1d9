"""A place among the tokens of a text."""

from flowform.errors import TextError
from flowform.tokens import tokens
from flowform.words import is_name


class Cursor:
    """The tokens of a text, and the number of those that have been read."""

    def __init__(self, text):
        self.found = tokens(text)
        self.length = len(text)
        self.passed = 0

    def peek(self):
        """Return the text of the next token, or the empty string at the end."""
        if self.passed == len(self.found):
            return ""
        return self.found[self.passed][1]

    def where(self):
        """Return the place of the next token, or the length of the text at the end."""
        if self.passed == len(self.found):
            return self.length
        return self.found[self.passed][2]

    def advance(self):
        """Return the text of the next token and pass it."""
        text = self.peek()
        self.passed += 1
        return text

    def take(self, text):
        """Return True and pass the next token if it is this one; otherwise return False."""
        if self.peek() != text:
            return False
        self.passed += 1
        return True

    def expect(self, text):
        """Pass the next token, which must be this one."""
        if not self.take(text):
            raise TextError(self.where(), f"expected {text}")

    def has_name(self):
        """Return True if the next token is a name."""
        return is_name(self.peek())
