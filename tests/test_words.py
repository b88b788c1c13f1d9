import string
import unittest

from flowform.words import is_name, is_outcome

RESERVED = "let if else while for break continue return try finally true false".split()


class NamesTest(unittest.TestCase):
    """Points [20] and [24]."""

    def check(self, names, expected):
        for name in names:
            self.assertIs(is_name(name), expected, name)

    def test_examples(self):
        names = ("ready", "x_1", "_x", "1x", "try", "Try", "")
        self.assertEqual(tuple(is_name(name) for name in names), (True, True, False, False, False, True, False))

    def test_lengths(self):
        self.check(["a", "Z", "a" * 29, "a" * 30, "a" + "_" * 29], True)
        self.check(["", "a" * 31, "a" * 32, "a" * 100], False)

    def test_first_character(self):
        self.check([letter + "1_" for letter in string.ascii_letters], True)
        self.check([digit + "a" for digit in string.digits], False)
        self.check(["_", "_a", "0", "7", "__"], False)

    def test_reserved_words_and_their_neighbours(self):
        self.check(RESERVED, False)
        for word in RESERVED:
            near = [word + "x", word + "_", word + "1", "x" + word, word.upper(), word.capitalize()]
            near += [word[1:], word[:-1], "q" + word[1:], word[:-1] + "q"]
            self.check([other for other in near if other not in RESERVED], True)
            self.check([word + " ", " " + word], False)
        self.check(["end", "hang", "do", "catch", "True", "False"], True)

    def test_other_characters(self):
        others = [chr(code) for code in range(128) if chr(code) not in string.ascii_letters + string.digits + "_"]
        self.assertIn("-", others)
        for character in others:
            self.check([character, "a" + character, character + "a", "a" + character + "b"], False)
        self.check(["a b", "a-b", "a.b", "a\n", "a();"], False)


class OutcomesTest(unittest.TestCase):
    """Points [22] and [24]."""

    def check(self, texts, expected):
        for text in texts:
            self.assertIs(is_outcome(text), expected, text)

    def test_examples(self):
        texts = ("return 7", "return 07", "return  7", "break try", "hang")
        self.assertEqual(tuple(is_outcome(text) for text in texts), (True, False, False, False, True))

    def test_plain_outcomes(self):
        self.check(["end", "return", "hang"], True)
        self.check(["", " ", "End", "HANG", "end ", " end", "return ", " return", "hang ", "end 1", "hang 1"], False)
        self.check(["a()", "ready", "returns", "ends", "break", "continue", "stop", "end end", "hang a"], False)

    def test_numbers(self):
        self.check([f"return {number}" for number in range(100)], True)
        self.check([f"return 0{number}" for number in range(100)], False)
        wrong = "return 100;return 00;return 07;return -1;return 1 ;return  1;return x;return 1x;return 1.0"
        self.check(wrong.split(";"), False)
        others = [chr(code) for code in range(32, 127) if chr(code) not in string.digits]
        self.check([f"return {character}" for character in others], False)
        self.check([f"return 1{character}" for character in others], False)
        self.check(["return7", "return +7", "return 7 7", "return 777", "return \t7", "returns 7"], False)

    def test_jumps(self):
        for word in ("break", "continue"):
            self.check([word + " " + name for name in ("x", "outer", "a" * 30, "end", "hang", "x_1", "Try")], True)
            self.check([word, word + " ", word + "  x", word + "x", word + " x ", " " + word + " x"], False)
            self.check([word + " " + name for name in ("a" * 31, "1x", "_x", "7", "a b", "a-b")], False)
            self.check([word + " " + name for name in RESERVED], False)
        self.check(["breaks x", "Break x", "let x", "goto x"], False)

    def test_long_strings(self):
        self.check(["r" * 100, "return " + "1" * 93, "break " + "a" * 94, " " * 100, "end" + " " * 97], False)


if __name__ == "__main__":
    unittest.main()
