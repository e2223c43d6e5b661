"""Point 3: tokens with their places, good and bad ones."""

import unittest

from gatesread.tokens import is_good, split_tokens

LOWER = "abcdefghijklmnopqrstuvwxyz"
DIGITS = "0123456789"
CHARACTERS = [chr(code) for code in range(ord(" "), ord("~") + 1) if chr(code) != "%"]


class SplitTokensTest(unittest.TestCase):
    def check(self, text, expected):
        with self.subTest(text):
            self.assertEqual(split_tokens(text), expected)

    def test_no_tokens(self):
        for text in ("", " ", "\n", " \n \n\n  "):
            self.check(text, [])

    def test_words_and_signs(self):
        self.check("in a b;\n", [(0, "in"), (3, "a"), (5, "b"), (6, ";")])
        self.check("x=and a b;", [(0, "x"), (1, "="), (2, "and"), (6, "a"), (8, "b"), (9, ";")])

    def test_end_without_newline(self):
        self.check("out abc", [(0, "out"), (4, "abc")])
        self.check("out abc\n", [(0, "out"), (4, "abc")])

    def test_spaces_and_newlines_separate(self):
        self.check("  a\nb  c\n\nd", [(2, "a"), (4, "b"), (7, "c"), (10, "d")])

    def test_longest_runs(self):
        self.check("ab12cd", [(0, "ab12cd")])
        self.check("12ab", [(0, "12ab")])
        self.check("7", [(0, "7")])
        long_run = LOWER + DIGITS + LOWER
        self.check(" " + long_run + " ", [(1, long_run)])

    def test_each_other_character_is_a_token(self):
        self.check("==;;", [(0, "="), (1, "="), (2, ";"), (3, ";")])
        self.check("aBc", [(0, "a"), (1, "B"), (2, "c")])
        self.check("AB", [(0, "A"), (1, "B")])
        self.check("a_b-", [(0, "a"), (1, "_"), (2, "b"), (3, "-")])

    def test_each_character_between_two_letters(self):
        for character in CHARACTERS:
            text = "a" + character + "b"
            if character == " ":
                self.check(text, [(0, "a"), (2, "b")])
            elif character in LOWER + DIGITS:
                self.check(text, [(0, text)])
            else:
                self.check(text, [(0, "a"), (1, character), (2, "b")])


class IsGoodTest(unittest.TestCase):
    def check(self, token, expected):
        with self.subTest(token):
            self.assertIs(is_good(token), expected)

    def test_each_character(self):
        for character in CHARACTERS:
            if character != " ":
                self.check(character, character in LOWER + "=;")

    def test_length_of_words(self):
        self.check("abcdefgh", True)
        self.check("abcdefghi", False)
        self.check("a1234567", True)
        self.check("a12345678", False)
        self.check("z" * 40, False)

    def test_first_character_of_words(self):
        self.check("a1", True)
        self.check("1a", False)
        self.check("0", False)
        self.check("9abcdefg", False)

    def test_reserved_words_are_good(self):
        for word in "in out not and or nand nor xor mux zero one latch".split():
            self.check(word, True)


if __name__ == "__main__":
    unittest.main()
