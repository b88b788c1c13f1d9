import random
import re
import string
import unittest

from flowform.errors import TextError
from flowform.tokens import tokens
from tests.helpers import raised

GOOD = re.compile(r"[A-Za-z][A-Za-z0-9_]*|[0-9]+|&&|\|\||[(){};:=!]|[ \n\t]+")


class TokensTest(unittest.TestCase):
    """Point [60]."""

    def check_error(self, text, place, reason):
        error = raised(tokens, text)
        self.assertIsInstance(error, TextError, text)
        self.assertEqual((error.place, error.reason), (place, reason), text)

    def test_no_tokens(self):
        for text in ("", " ", "\n", "\t", " \n\t \n"):
            self.assertEqual(tokens(text), ())

    def test_kinds_and_places(self):
        self.assertEqual(tokens("x1: while(a() &&\n\t!b)return 7;"), (
            ("word", "x1", 0), ("symbol", ":", 2), ("word", "while", 4), ("symbol", "(", 9), ("word", "a", 10),
            ("symbol", "(", 11), ("symbol", ")", 12), ("symbol", "&&", 14), ("symbol", "!", 18), ("word", "b", 19),
            ("symbol", ")", 20), ("word", "return", 21), ("number", "7", 28), ("symbol", ";", 29)))

    def test_symbols(self):
        self.assertEqual([token[1] for token in tokens("&&||(){};:=!")], ["&&", "||"] + list("(){};:=!"))
        self.assertEqual(tokens("&&&&"), (("symbol", "&&", 0), ("symbol", "&&", 2)))
        self.assertEqual(tokens("=="), (("symbol", "=", 0), ("symbol", "=", 1)))
        self.assertEqual(tokens("!!="), (("symbol", "!", 0), ("symbol", "!", 1), ("symbol", "=", 2)))

    def test_words(self):
        for word in ("a", "Z", "a_1", "let", "true", "A__", "x" * 29, "x" * 30):
            self.assertEqual(tokens(word), (("word", word, 0),))
            self.assertEqual(tokens(f" {word};"), (("word", word, 1), ("symbol", ";", 1 + len(word))))
        for word in ("x" * 31, "x" * 100, "a" + "_" * 30, "a" + "0" * 30):
            self.check_error(word, 0, "word too long")
            self.check_error(f"\n {word} {word}", 2, "word too long")

    def test_numbers(self):
        for number in [str(number) for number in range(100)]:
            self.assertEqual(tokens(number), (("number", number, 0),))
        for digits in ("00", "01", "07", "09", "100", "000", "010", "999", "1" * 60):
            self.check_error(digits, 0, "invalid number")
            self.check_error("return  " + digits + ";", 8, "invalid number")

    def test_each_as_far_as_possible(self):
        self.assertEqual(tokens("7a7"), (("number", "7", 0), ("word", "a7", 1)))
        self.assertEqual(tokens("10if0"), (("number", "10", 0), ("word", "if0", 2)))
        self.assertEqual(tokens("whilea while"), (("word", "whilea", 0), ("word", "while", 7)))
        self.assertEqual(tokens("1 2"), (("number", "1", 0), ("number", "2", 2)))

    def test_unexpected_characters(self):
        for character in "_-.,<>[]+*/\\'\"#$?@^`~":
            self.check_error(character, 0, "unexpected character")
            self.check_error("a();  " + character + "a", 6, "unexpected character")
        self.check_error("a-b", 1, "unexpected character")
        self.check_error("a _b", 2, "unexpected character")
        self.check_error("7_", 1, "unexpected character")

    def test_every_character_by_itself(self):
        for character in [chr(code) for code in range(32, 127)] + ["\n", "\t"]:
            if character in " \n\t":
                self.assertEqual(tokens(character), ())
            elif character in string.ascii_letters:
                self.assertEqual(tokens(character), (("word", character, 0),))
            elif character in string.digits:
                self.assertEqual(tokens(character), (("number", character, 0),))
            elif character in "(){};:=!":
                self.assertEqual(tokens(character), (("symbol", character, 0),))
            else:
                self.check_error(character, 0, "unexpected character")

    def test_single_signs(self):
        for sign, other in (("&", "|"), ("|", "&")):
            self.check_error(sign, 0, "unexpected character")
            self.check_error(sign + " " + sign, 0, "unexpected character")
            self.check_error(sign + other, 0, "unexpected character")
            self.check_error(sign * 3, 2, "unexpected character")
            self.check_error(sign * 2 + other + sign, 2, "unexpected character")
            self.check_error("a" + sign * 5 + "b", 5, "unexpected character")

    def test_the_first_fault_counts(self):
        long = "a" * 31
        self.check_error(f"x {long} 00 ?", 2, "word too long")
        self.check_error(f"x 00 {long} ?", 2, "invalid number")
        self.check_error(f"x ? {long} 00", 2, "unexpected character")
        self.check_error(f"{long}00 ?", 0, "word too long")
        self.check_error(f"100{long}", 0, "invalid number")

    def test_against_a_regular_expression(self):
        maker = random.Random(4)
        pieces = ["a", "if", "_", "7", "0", "12", " ", "\n", "\t", "&", "&&", "|", "||", "(", "!", "=", "x" * 15, "."]
        for _ in range(3000):
            text = "".join(maker.choice(pieces) for _ in range(maker.randint(0, 8)))
            place, found, error = 0, [], None
            while place < len(text) and error is None:
                match = GOOD.match(text, place)
                piece = match.group() if match else ""
                if not match:
                    error = (place, "unexpected character")
                elif piece[0].isalpha() and len(piece) > 30:
                    error = (place, "word too long")
                elif piece[0].isdigit() and not re.fullmatch("[0-9]|[1-9][0-9]", piece):
                    error = (place, "invalid number")
                elif not piece.isspace():
                    kind = "word" if piece[0].isalpha() else "number" if piece[0].isdigit() else "symbol"
                    found.append((kind, piece, place))
                place += len(piece)
            if error is None:
                self.assertEqual(tokens(text), tuple(found))
            else:
                self.check_error(text, *error)


if __name__ == "__main__":
    unittest.main()
