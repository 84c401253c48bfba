import itertools
import random
import unittest

from codenests.codes import check_code
from codenests.errors import BadCode, BadGround, BadNest, BadPart, BadRow, BadText
from codenests.grounds import Ground
from codenests.lexemes import lexemes
from codenests.nests import Nest, standard
from codenests.parts import Part
from codenests.printer import code_text, ground_text, nest_text, part_text, row_text, script_text
from codenests.reader import read_code, read_ground, read_nest, read_part, read_row, read_script
from tests import brute
from tests.anything import GREAT

GROUND = Ground(3, 3)

C1 = ((1, 0, 2),)
C2 = ((1, 0, 2), (0, 1, 1))


def ground_reader(read):
    return lambda text: read(GROUND, text)


READERS = {"ground": read_ground, "row": ground_reader(read_row), "code": ground_reader(read_code),
           "nest": ground_reader(read_nest), "part": ground_reader(read_part), "script": read_script}

# What may follow in each state of a form, as a table: N is any number, and
# "end" is the state in which a text is complete.
ROW = {"(": {"(": "r0"}, "r0": {"N": "r1", ")": "X"}, "r1": {",": "r2", ")": "X"}, "r2": {"N": "r1"}}


def with_row(begin, behind):
    """The states of a row that begins in one state and leads to another one."""
    states = {}
    for name, moves in ROW.items():
        state = begin if name == "(" else begin + name
        states[state] = {sign: behind if to == "X" else begin + to for sign, to in moves.items()}
    return states


def with_code(begin, behind):
    states = {begin: {"[": "c0"}, "c1": {",": "c2", "]": behind}}
    first = with_row("c0", "c1")
    first["c0"]["]"] = behind
    return {**states, **first, **with_row("c2", "c1")}


FORMS = {
    "ground": {"start": {"ground": "p"}, "p": {"N": "n"}, "n": {"N": "s"}, "s": {";": "end"}},
    "row": with_row("start", "end"),
    "code": with_code("start", "end"),
    "nest": {"start": {"nest": "o"}, "o": {"{": "i"}, **with_code("i", "s"), "s": {";": "i"}},
    "part": {"start": {"part": "o"}, "o": {"{": "i"}, **with_code("i", "s"), "s": {";": "i"}},
    "script": {"start": {"script": "o"}, "o": {"{": "l"}, "l": {"N": "i"}, **with_code("i", "s"), "s": {";": "l"}},
}
FORMS["nest"]["i"]["}"] = "end"
FORMS["part"]["i"]["}"] = "end"
FORMS["script"]["l"]["}"] = "end"

TEXTS = {
    "ground": ["ground 3 3;\n", "ground 0 0 ;", "ground 13 6;"],
    "row": ["()", "(1, 0, 2)", "(5)", "(1, 12, 0, 3)"],
    "code": ["[]", "[()]", "[(1, 0, 2)]", "[(1, 0, 2), (0, 1, 1)]", "[(), (1), ()]"],
    "nest": ["nest {\n}\n", "nest {\n[(1, 0, 2)];\n[(1, 0, 2), (0, 1, 1)];\n}\n", "nest { []; [()]; }"],
    "part": ["part {\n}\n", "part {\n[(1, 0, 2)];\n[(1, 0, 2), (0, 1, 1)];\n}\n", "part { []; }"],
    "script": ["script {\n}\n", "script {\n1 [(1, 1, 0)];\n2 [(1, 1, 0), (0, 0, 1)];\n}\n", "script { 7 []; 0 [()]; }"],
}

OTHERS = list("()[]{},;") + ["0", "1", "20", "ground", "nest", "part", "script", "row", "ab"]


def first_wrong(form, text):
    """The first wrong place by the table of the form, or None."""
    try:
        found, end = lexemes(text), None
    except BadText as error:
        found, end = lexemes(text[:error.place]), error.place
    state = "start"
    for sort, lexeme, place in found:
        moves = FORMS[form].get(state, {})
        key = "N" if sort == "number" else lexeme
        if key not in moves:
            return place
        state = moves[key]
    if end is not None:
        return end
    return None if state == "end" else len(text)


def place_told(form, text):
    """The first wrong place that is told, or None if the text is right."""
    try:
        READERS[form](text)
    except BadText as error:
        assert type(error.place) is int
        return error.place
    except (BadGround, BadRow, BadCode, BadNest, BadPart):
        return None
    return None


def pieces(text):
    return [lexeme for _, lexeme, _ in lexemes(text)]


def tightly(parts):
    """The lexemes with a blank only where two would run together."""
    text = ""
    for part in parts:
        if text and text[-1].isalnum() and part[0].isalnum():
            text += " "
        text += part
    return text


class WhatIsWrittenIsRead(unittest.TestCase):
    def spaced(self, text):
        """The text with other blanks and line feeds between its lexemes, also with none."""
        parts = pieces(text)
        yield text
        for between in [" ", "\n", "  \n ", "\n\n"]:
            yield between.join(parts)
            yield between + between.join(parts) + between
        yield tightly(parts)

    def test_grounds(self):
        for p, n in [(2, 0), (2, 3), (13, 6), (9973, 30), (3, 1)]:
            for text in self.spaced(ground_text(Ground(p, n))):
                self.assertEqual(read_ground(text), Ground(p, n))

    def test_rows(self):
        for p, n in [(2, 0), (3, 1), (2, 3), (3, 2)]:
            for row in brute.rows_of_length(p, n):
                for text in self.spaced(row_text(row)):
                    self.assertEqual(read_row(Ground(p, n), text), row)
        self.assertEqual(read_row(Ground(13, 6), "(12, 11, 10, 0, 1, 2)"), (12, 11, 10, 0, 1, 2))

    def test_codes(self):
        for p, n in [(2, 0), (3, 1), (3, 2), (2, 3)]:
            for code in brute.all_bases(p, n):
                for text in self.spaced(code_text(code)):
                    self.assertEqual(read_code(Ground(p, n), text), code)

    def test_nests_and_partial_nests(self):
        for p, n in [(2, 0), (3, 1), (3, 2), (2, 3)]:
            ground = Ground(p, n)
            for codes in brute.all_nests(p, n):
                for text in self.spaced(nest_text(Nest(ground, codes))):
                    self.assertEqual(read_nest(ground, text), Nest(ground, codes))
                for many in range(len(codes) + 1):
                    part = Part(ground, codes[many:])
                    for text in self.spaced(part_text(part)):
                        self.assertEqual(read_part(ground, text), part)
        chance = random.Random(62)
        for p, n in [(13, 6), (7, 5)]:
            nest = Nest(Ground(p, n), brute.random_nest(chance, p, n))
            self.assertEqual(read_nest(Ground(p, n), nest_text(nest)), nest)

    def test_scripts(self):
        for script in [[], [(1, C1)], [(1, C1), (2, C2), (1, C1)], [(0, ()), (GREAT, ((), (GREAT, 0)))], [(7, ((),))]]:
            for text in self.spaced(script_text(script)):
                found = read_script(text)
                self.assertEqual(found, script)
                self.assertIs(type(found), list)
                for level, code in found:
                    self.assertIs(type(level), int)
                    self.assertIs(type(code), tuple)
                    self.assertTrue(all(type(row) is tuple for row in code))

    def test_long_texts(self):
        script = [(k, ((k, 1),)) for k in range(1, 1200)]
        text = script_text(script)
        self.assertLessEqual(len(text), 20000)
        self.assertEqual(read_script(text), script)
        self.assertEqual(read_script(" " * (20000 - len(text)) + text), script)


class WrongPlaces(unittest.TestCase):
    def check(self, form, text):
        self.assertEqual(place_told(form, text), first_wrong(form, text), (form, text))

    def wrong(self, form, text, place):
        self.assertEqual(place_told(form, text), place, (form, text))

    def test_the_example(self):
        self.wrong("row", "1 !", 0)

    def test_chosen_places(self):
        self.wrong("row", "(1,)", 3)
        self.wrong("row", "(,1)", 1)
        self.wrong("row", "(1 2)", 3)
        self.wrong("row", "(007)", 2)
        self.wrong("row", "(1, 2) 3", 7)
        self.wrong("row", "(1, 2) !", 7)
        self.wrong("row", "(1, 2)\t", 6)
        self.wrong("row", "(1, 2", 5)
        self.wrong("row", "(1, 2  \n", 8)
        self.wrong("row", "", 0)
        self.wrong("row", " \n", 2)
        self.wrong("row", "(1, a)", 4)
        self.wrong("row", "(1, abcdefghijklm)", 4)
        self.wrong("row", "(1 abcdefghijklm)", 3)
        self.wrong("row", "(1 2 !", 3)
        self.wrong("row", "(-1)", 1)
        self.wrong("row", "[1]", 0)
        self.wrong("code", "[(1),]", 5)
        self.wrong("code", "[(1) (2)]", 5)
        self.wrong("code", "[1]", 1)
        self.wrong("code", "(1)", 0)
        self.wrong("ground", "ground2 3;", 0)
        self.wrong("ground", "ground 23;", 9)
        self.wrong("ground", "ground 2 3", 10)
        self.wrong("ground", "ground 2 3;;", 11)
        self.wrong("ground", "Ground 2 3;", 0)
        self.wrong("nest", "part { }", 0)
        self.wrong("nest", "nest { [] }", 10)
        self.wrong("nest", "nest { ; }", 7)
        self.wrong("nest", "nest { } }", 9)
        self.wrong("part", "nest { }", 0)
        self.wrong("script", "script { []; }", 9)
        self.wrong("script", "script { 1; }", 10)
        self.wrong("script", "script { 1 2 []; }", 11)

    def test_numbers_with_noughts_ahead_are_several(self):
        self.wrong("script", "script{07[];}", 8)
        self.wrong("code", "[(1, 02)]", 6)
        self.assertEqual(read_script("script{0[(0)];}"), [(0, ((0,),))])
        with self.assertRaises(BadGround):
            read_ground("ground 03;")

    def test_all_short_rows_of_lexemes(self):
        for form in FORMS:
            word = form if form in OTHERS else "ground"
            for many in range(5):
                for parts in itertools.product(list("()[]{},;") + ["0", word], repeat=many):
                    self.check(form, " ".join(parts))

    def test_lexemes_left_out_put_in_told_twice_and_exchanged(self):
        for form, texts in TEXTS.items():
            for parts in map(pieces, texts):
                for k in range(len(parts) + 1):
                    changed = [parts[:k] + [other] + parts[k:] for other in OTHERS]
                    if k < len(parts):
                        changed += [parts[:k] + parts[k + 1:], parts[:k] + [parts[k]] + parts[k:]]
                        changed += [parts[:k] + [other] + parts[k + 1:] for other in OTHERS]
                    if k + 1 < len(parts):
                        changed.append(parts[:k] + [parts[k + 1], parts[k]] + parts[k + 2:])
                    for new in changed:
                        self.check(form, " ".join(new))
                        self.check(form, "\n".join(new) + "\n")
                        self.check(form, tightly(new))

    def test_cut_anywhere(self):
        for form, texts in TEXTS.items():
            for text in texts:
                for k in range(len(text) + 1):
                    self.check(form, text[:k])
                    self.check(form, text[k:])

    def test_a_text_that_is_not_complete(self):
        for form, texts in TEXTS.items():
            for text in texts:
                for _, _, place in lexemes(text):
                    self.wrong(form, text[:place], place)
                    self.wrong(form, text[:place] + " \n", place + 2)

    def test_characters_put_in_anywhere(self):
        for form, texts in TEXTS.items():
            for text in texts:
                for k in range(len(text) + 1):
                    for sign in ["!", "\t", "A", "-", "abcdefghijklm", " ", "\n", "0", "a"]:
                        self.check(form, text[:k] + sign + text[k:])

    def test_texts_of_one_form_read_as_another(self):
        for form in FORMS:
            for other, texts in TEXTS.items():
                for text in texts:
                    self.check(form, text)

    def test_long_wrong_texts(self):
        for form in FORMS:
            for text in ["(" * 20000, "[(" + "1, " * 6000, " " * 20000, "0" * 20000, form + " {" * 9000, "a" * 20000]:
                self.check(form, text)


class WhatTextsTellWrong(unittest.TestCase):
    def path(self, error_class, form, text):
        with self.assertRaises(error_class) as caught:
            READERS[form](text)
        self.assertIs(type(caught.exception), error_class)
        return caught.exception.path

    def test_grounds(self):
        for p in [0, 1, 4, 9, 100, 10000]:
            self.assertEqual(self.path(BadGround, "ground", f"ground {p} 3;"), (0,))

    def test_rows(self):
        self.assertEqual(self.path(BadRow, "row", "()"), ())
        self.assertEqual(self.path(BadRow, "row", "(1, 2)"), ())
        self.assertEqual(self.path(BadRow, "row", "(1, 2, 0, 0)"), ())
        self.assertEqual(self.path(BadRow, "row", "(1, 3, 4)"), (1,))
        self.assertEqual(self.path(BadRow, "row", "(1, 2, " + "9" * 40 + ")"), (2,))

    def test_codes(self):
        codes = [((1, 0),), ((1, 0, 3),), ((0, 0, 0),), ((2, 0, 0),), C2 + C2, C1 + C1, ((0, 1, 1), (1, 0, 2)),
                 C1 + ((0, 5, 0),), C1 + ((0, 1),), ((1, 2, 0), (0, 1, 0)), ((),)]
        for code in codes:
            with self.assertRaises(BadCode) as caught:
                check_code(GROUND, code)
            self.assertEqual(self.path(BadCode, "code", code_text(code)), caught.exception.path, code)

    def test_nests(self):
        self.assertEqual(self.path(BadNest, "nest", "nest { }"), ())
        self.assertEqual(self.path(BadNest, "nest", "nest { [(1, 0, 2)]; }"), ())
        self.assertEqual(self.path(BadNest, "nest", "nest { []; []; []; }"), ())
        self.assertEqual(self.path(BadNest, "nest", "nest { []; []; }"), (0,))
        self.assertEqual(self.path(BadNest, "nest", "nest { [(1, 0, 2)]; [(1, 0, 0), (0, 1, 0)]; }"), (1,))
        self.assertEqual(self.path(BadNest, "nest", "nest { [(1, 0, 2)]; [(1, 0, 2), (0, 1)]; }"), (1, 1))
        self.assertEqual(self.path(BadNest, "nest", "nest { [(1, 7, 2)]; [(1, 0, 2), (0, 1)]; }"), (0, 0, 1))
        with self.assertRaises(BadNest) as caught:
            read_nest(Ground(2, 1), "nest { []; }")
        self.assertEqual(caught.exception.path, ())

    def test_partial_nests(self):
        self.assertEqual(self.path(BadPart, "part", "part { []; }"), (0,))
        self.assertEqual(self.path(BadPart, "part", "part { [(1, 0, 2)]; [(1, 0, 2)]; }"), (1,))
        self.assertEqual(self.path(BadPart, "part", "part { [(1, 0, 2), (0, 1, 1)]; [(1, 0, 2)]; }"), (1,))
        self.assertEqual(self.path(BadPart, "part", "part { [(1, 0, 2)]; [(1, 0, 2), (0, 1, 3)]; }"), (1, 1, 2))
        self.assertEqual(self.path(BadPart, "part", "part { [(1, 0, 0), (0, 1, 0), (0, 0, 1)]; }"), (0,))

    def test_a_wrong_place_comes_ahead(self):
        for form, text, place in [
            ("ground", "ground 4 3", 10), ("ground", "ground 4 3; 1", 12), ("row", "(7, 7,)", 6), ("row", "() ()", 3),
            ("code", "[(1), (7) !", 10), ("code", "[(0, 0, 0)", 10), ("nest", "nest { []; []", 13),
            ("nest", "nest { } ;", 9), ("part", "part { []; } a", 13), ("part", "part { []; []; \t}", 15),
        ]:
            self.assertEqual(place_told(form, text), place, text)

    def test_a_script_is_not_looked_at_further(self):
        self.assertEqual(read_script("script { 0 []; 9 [(7, 7), (), (0)]; 9 [(7, 7), (), (0)]; }"),
                         [(0, ()), (9, ((7, 7), (), (0,))), (9, ((7, 7), (), (0,)))])

    def test_the_ground_counts(self):
        text = nest_text(standard(Ground(2, 3)))
        self.assertEqual(read_nest(Ground(5, 3), text), standard(Ground(5, 3)))
        with self.assertRaises(BadNest):
            read_nest(Ground(2, 4), text)
