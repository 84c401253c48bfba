import unittest

from codenests.words import is_number, is_word
from tests.anything import GREAT, NEGATIVE, no_integers


class Words(unittest.TestCase):
    def test_words(self):
        for value in ["a", "z", "a0", "z9", "abc", "n12", "abcdefghijkl", "a23456789012", "zzzzzzzzzzzz"]:
            self.assertIs(is_word(value), True, value)

    def test_each_letter_and_digit(self):
        for letter in "abcdefghijklmnopqrstuvwxyz":
            self.assertIs(is_word(letter), True)
            self.assertIs(is_word("a" + letter), True)
        for digit in "0123456789":
            self.assertIs(is_word(digit), False)
            self.assertIs(is_word("a" + digit), True)

    def test_strings_that_are_no_words(self):
        wrong = ["", "abcdefghijklm", "0", "9a", "A", "aB", "Ab", " ", " a", "a ", "a b", "a\n", "\n", "a\t",
                 "a_b", "_a", "a-b", "a.b", "a{", "`a", "a`", "a" * 40]
        for value in wrong:
            self.assertIs(is_word(value), False, repr(value))
        for code in range(32, 127):
            sign = chr(code)
            self.assertIs(is_word("a" + sign), sign in "abcdefghijklmnopqrstuvwxyz0123456789", sign)
            self.assertIs(is_word(sign), sign in "abcdefghijklmnopqrstuvwxyz", sign)

    def test_what_is_no_string(self):
        for value in no_integers() + NEGATIVE + [0, 1, GREAT, ("a",), ["a"], {"a": "b"}, ["a", "b"]]:
            if not isinstance(value, str):
                self.assertIs(is_word(value), False, repr(value))


class Numbers(unittest.TestCase):
    def test_numbers(self):
        for value in [0, 1, 2, 10, 9999, GREAT]:
            self.assertIs(is_number(value), True, value)

    def test_what_is_no_number(self):
        for value in NEGATIVE + no_integers():
            self.assertIs(is_number(value), False, repr(value))
