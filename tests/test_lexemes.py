import random
import re
import string
import unittest

from codenests.errors import BadText
from codenests.lexemes import lexemes

SIGNS = "()[]{},;"
PRINTED = [chr(code) for code in range(32, 127)] + ["\t", "\n"]


def expected(text):
    """The lexemes and the first wrong place, found by patterns."""
    found = []
    place = 0
    while place < len(text):
        part = re.compile(r"[ \n]+|[a-z][a-z0-9]*|0|[1-9][0-9]*|[()\[\]{},;]").match(text, place)
        if part is None or (part[0][0] in string.ascii_lowercase and len(part[0]) > 12):
            return found, place
        if part[0][0] in string.ascii_lowercase:
            found.append(("word", part[0], place))
        elif part[0][0] in string.digits:
            found.append(("number", part[0], place))
        elif part[0][0] in SIGNS:
            found.append(("sign", part[0], place))
        place = part.end()
    return found, None


class Lexemes(unittest.TestCase):
    def check(self, text):
        found, wrong = expected(text)
        if wrong is None:
            self.assertEqual(lexemes(text), found, repr(text))
        else:
            self.wrong(text, wrong)

    def wrong(self, text, place):
        with self.assertRaises(BadText) as caught:
            lexemes(text)
        self.assertEqual(caught.exception.place, place, repr(text))
        self.assertIs(type(caught.exception.place), int)

    def plain(self, text, wanted):
        self.assertEqual([(sort, lexeme) for sort, lexeme, _ in lexemes(text)], wanted, repr(text))

    def test_the_examples(self):
        self.assertEqual(lexemes("12ab"), [("number", "12", 0), ("word", "ab", 2)])
        self.assertEqual(lexemes("007"), [("number", "0", 0), ("number", "0", 1), ("number", "7", 2)])
        self.wrong("abcdefghijklm", 0)

    def test_no_lexemes(self):
        for text in ["", " ", "\n", " \n \n\n  "]:
            self.assertEqual(lexemes(text), [])

    def test_kinds(self):
        found = lexemes("nest {\n  [(1, 0)]; }")
        self.assertIs(type(found), list)
        self.assertEqual(found[0], ("word", "nest", 0))
        self.assertEqual(found[3], ("sign", "(", 10))
        self.assertEqual(found[4], ("number", "1", 11))
        for member in found:
            self.assertIs(type(member), tuple)
            self.assertEqual([type(part) for part in member], [str, str, int])

    def test_words(self):
        for many in range(1, 13):
            word = "a1b2c3d4e5f6"[:many]
            self.assertEqual(lexemes(word), [("word", word, 0)])
            self.assertEqual(lexemes("  " + word + " "), [("word", word, 2)])
            self.assertEqual(lexemes("z" * many), [("word", "z" * many, 0)])
        for letter in string.ascii_lowercase:
            self.assertEqual(lexemes(letter + "9" + letter), [("word", letter + "9" + letter, 0)])

    def test_long_words_begin_no_lexeme(self):
        for word in ["a" * 13, "a123456789012", "a" * 14, "z" * 50, "abcdefghijkl0"]:
            self.wrong(word, 0)
            self.wrong(" \n" + word + " a", 2)
            self.wrong("(ab," + word, 4)
            self.wrong("12" + word, 2)
            self.wrong("0" + word + "!", 1)

    def test_numbers(self):
        self.plain("0", [("number", "0")])
        self.plain("10", [("number", "10")])
        self.plain("100200", [("number", "100200")])
        self.plain("0100", [("number", "0"), ("number", "100")])
        self.plain("000", [("number", "0")] * 3)
        self.plain("0a", [("number", "0"), ("word", "a")])
        self.plain("00a0", [("number", "0"), ("number", "0"), ("word", "a0")])
        self.plain("90a1 b", [("number", "90"), ("word", "a1"), ("word", "b")])
        self.plain("9" * 40, [("number", "9" * 40)])
        self.plain("1" + "0" * 5000, [("number", "1" + "0" * 5000)])
        for digit in "123456789":
            self.plain(digit + "0", [("number", digit + "0")])

    def test_signs(self):
        for sign in SIGNS:
            self.assertEqual(lexemes(sign), [("sign", sign, 0)])
            self.assertEqual(lexemes(sign + sign), [("sign", sign, 0), ("sign", sign, 1)])
            self.assertEqual(lexemes("a" + sign + "1"), [("word", "a", 0), ("sign", sign, 1), ("number", "1", 2)])
        self.plain("([{}]),;", [("sign", sign) for sign in "([{}]),;"])

    def test_blanks_and_line_feeds_part_lexemes(self):
        self.assertEqual(lexemes("a b\nc"), [("word", "a", 0), ("word", "b", 2), ("word", "c", 4)])
        self.assertEqual(lexemes("1 2\n\n0"), [("number", "1", 0), ("number", "2", 2), ("number", "0", 5)])

    def test_each_character(self):
        for sign in PRINTED:
            for text in [sign, "a" + sign, sign + "a", "1" + sign, sign + "1", "( " + sign + " )"]:
                self.check(text)
        for sign in "\tA Z!\"#$%&'*+-./:<=>?@\\^_`|~".replace(" ", ""):
            self.wrong(sign, 0)
            self.wrong("ab" + sign, 2)
            self.wrong(" 10\n" + sign + "A", 4)

    def test_the_first_one_that_begins_no_lexeme(self):
        self.wrong("a ! b !", 2)
        self.wrong("abcdefghijklm !", 0)
        self.wrong("! abcdefghijklm", 0)
        self.wrong("ab abcdefghijklm !", 3)
        self.wrong("1\t2", 1)
        self.wrong("(1, -1)", 4)

    def test_random_texts(self):
        chance = random.Random(61)
        for signs, longest in [("ab01 \n(,;", 30), ("abc0129", 14), ("aZ0 \t;", 5), ("".join(PRINTED), 6)]:
            for _ in range(1500):
                self.check("".join(chance.choice(signs) for _ in range(chance.randrange(longest + 1))))

    def test_long_texts(self):
        for text in ["(" * 20000, " " * 20000, "0" * 20000, "1 " * 10000, "a " * 10000, "ab1;\n" * 4000,
                     "9" * 20000, "a" * 20000, " " * 19999 + "!", "abcdefghijkl;" * 1500, "1" * 19999 + "a"]:
            self.check(text)
