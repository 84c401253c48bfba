import random
import unittest

from codenests.console import Console
from codenests.grounds import Ground
from codenests.house import House, beside
from codenests.nests import Nest, standard
from codenests.ways import judge_way
from tests.test_acts import OTHER, plain_act
from tests.test_differences import F, G, H, opposite, some_nests
from tests.test_house import state

# Two lines that lead from the standard nest with p = 2 and n = 3, and back to it.
PUT = "put 1 [(0, 1, 0)]"
BACK = "put 1 [(1, 0, 0)]"


def row_words(row):
    return "(" + ", ".join(str(entry) for entry in row) + ")"


def code_words(code):
    return "[" + ", ".join(row_words(row) for row in code) + "]"


def act_line(act):
    """The line that says an act."""
    if act[0] == "put":
        return "put " + str(act[1]) + " " + code_words(act[2])
    if act[0] == "goal":
        return "goal" if act[1] is None else "goal {" + "".join(code_words(code) + ";" for code in act[1]) + "}"
    if act[0] == "lead":
        return "lead " + code_words(act[1])
    return " ".join(str(member) for member in act)


class Lines(unittest.TestCase):
    def refused(self, console, line, answer):
        """Make sure that a line gets this answer and changes nothing."""
        house = console.house()
        before, twin = state(house), house.twin()
        self.assertEqual(console.say(line), answer, line)
        self.assertEqual(state(house), before)
        self.assertEqual(house, twin)


class Answers(Lines):
    def test_a_conversation(self):
        house = House(F)
        console = Console(house)
        told = [
            ("show", "[(1, 0, 0)]; [(1, 0, 0), (0, 1, 0)]"), ("paid", "0"), ("nails", ""), ("left", "none"),
            ("order", "none"), ("way", "none"), ("keep start", "1"), (PUT, "1"), ("paid", "1"), ("to start", "1"),
            ("show", "[(0, 1, 0)]; [(1, 0, 0), (0, 1, 0)]"), ("nail 2", "2"), ("nails", "2"), ("nail 1", "3"),
            ("nails", "1, 2"), ("free 1", "4"), ("goal {[(1, 0, 0)]; [(1, 0, 0), (0, 1, 0)];}", "5"), ("left", "1"),
            ("order", "1, 0, 2"), ("way", "1 [(1, 0, 0)]"), (BACK, "6"), ("left", "0"), ("way", ""),
            ("order", "0, 1, 2"), ("turn", "7"), ("nails", "1"), ("show", "[(0, 0, 1)]; [(0, 1, 0), (0, 0, 1)]"),
            ("lead [(0, 0, 1), (0, 1, 0), (1, 0, 0)]", "8"), ("show", "[(1, 0, 0)]; [(1, 0, 0), (0, 1, 0)]"),
            ("undo", "7"), ("undo", "6"), ("redo", "7"), ("keep start", "1"), ("keep put", "2"), ("to put", "0"),
            ("at 0", "[]"), ("at 1", "[(0, 0, 1)]"), ("at 3", "[(1, 0, 0), (0, 1, 0), (0, 0, 1)]"),
            ("goal", "8"), ("left", "none"), ("paid", "2"),
        ]
        for line, answer in told:
            self.assertEqual(console.say(line), answer, line)
        self.assertIs(console.house(), house)
        self.assertEqual(house.done()[:2], [("put", 1, ((0, 1, 0),)), ("nail", 2)])
        self.assertEqual(house.done()[-1], ("goal", None))
        self.assertEqual(house.done()[4], ("goal", tuple(F.codes())))
        self.assertEqual(house.done()[6:7], [("turn",)])

    def test_acts(self):
        chance = random.Random(1)
        for p, n, many in [(2, 0, 12), (3, 1, 20), (2, 3, 100), (13, 4, 50)]:
            house, model = House(some_nests(p, n, 1, 2)[0]), House(some_nests(p, n, 1, 2)[0])
            console = Console(house)
            for _ in range(many):
                act = plain_act(house.nest(), chance)
                try:
                    wanted = str(model.do(act))
                except ValueError as error:
                    self.refused(console, act_line(act), "no BadAct " + error.word)
                else:
                    self.assertEqual(console.say(act_line(act)), wanted)
                self.assertEqual(house, model)
                self.compare(console, house)

    def compare(self, console, house):
        """What the asking lines tell, and what the house tells."""
        nest, nails, goal = house.stand()
        self.assertEqual(console.say("show"), "; ".join(map(code_words, nest.codes())))
        self.assertEqual(console.say("nails"), ", ".join(map(str, nails)))
        self.assertEqual(console.say("paid"), str(house.paid()))
        self.assertEqual(console.say("left"), "none" if goal is None else str(house.left()))
        for number in range(nest.ground().n() + 1):
            self.assertEqual(console.say("at " + str(number)), code_words(nest.code(number)))
        if goal is None:
            self.assertEqual([console.say("order"), console.say("way")], ["none", "none"])
        else:
            script = self.script_of(console.say("way"))
            self.assertIsNone(judge_way(nest, goal, script))
            order = [int(word) for word in console.say("order").split(", ") if word]
            self.assertEqual(len([1 for b in range(len(order)) for a in range(b) if order[a] > order[b]]),
                             house.left())

    def script_of(self, answer):
        script = []
        for deed in answer.split("; ") if answer else []:
            level, code = deed.split(" ", 1)
            rows = tuple(tuple(int(entry) for entry in row.split(", ")) for row in code[2:-2].split("), ("))
            script.append((int(level), rows))
            self.assertEqual(deed, level + " " + code_words(rows))
        return script

    def test_texts_of_long_answers(self):
        house = House(standard(Ground(13, 6)))
        console = Console(house)
        console.say(act_line(("goal", tuple(opposite(Ground(13, 6)).codes()))))
        self.assertEqual(console.say("order"), "5, 4, 3, 2, 1, 0")
        self.assertEqual(console.say("left"), "15")
        self.assertEqual(len(console.say("way").split("; ")), 15)

    def test_small_grounds(self):
        for n, order, row in [(0, "", "[]"), (1, "0", "[(1)]")]:
            console = Console(House(standard(Ground(3, n))))
            self.assertEqual([console.say(line) for line in ["show", "nails", "order", "goal {}", "order", "way", "left"]],
                             ["", "", "none", "1", order, "", "0"])
            self.assertEqual(console.say("at 0"), "[]")
            self.assertEqual(console.say("at " + str(n)), row)
            self.assertEqual(console.say("turn"), "2")
            self.assertEqual(console.say("lead " + ("[]" if n == 0 else "[(2)]")), "3")
            self.refused(console, "lead " + ("[()]" if n == 0 else "[]"), "no BadAct map")
            self.refused(console, "put 1 [(1)]", "no BadAct deed")
            self.refused(console, "nail 1", "no BadAct level")
            self.refused(console, "at 2", "no NoLevel")
            self.assertEqual(console.say("goal"), "4")

    def test_marks(self):
        console = Console(House(F))
        self.refused(console, "to a", "no UnknownName")
        for k, name in enumerate(["a", "keep", "to", "goal", "a1b2c3d4e5f6", "a", "put", "x"]):
            self.assertEqual(console.say("keep " + name), str(k + 1 - (k > 4)))
        self.assertEqual(console.house().marks(), ["a", "keep", "to", "goal", "a1b2c3d4e5f6", "put", "x"])
        console.say(PUT)
        self.assertEqual([console.say("to " + name) for name in ["keep", "to", "goal", "put"]], ["1"] * 4)
        self.refused(console, "to b", "no UnknownName")
        self.refused(console, "to show", "no UnknownName")

    def test_answers_are_plain(self):
        console = Console(House(F))
        for line in ["show", "left", "order", "way", "nails", "paid", "at 1", PUT, "undo", "keep a", "to a", "!", "at 9"]:
            self.assertIs(type(console.say(line)), str)


class Blanks(Lines):
    LINES = [PUT, "nail 2", "free 2", "goal {[(1,1,1)];[(1,0,1),(0,1,0)];}", "lead [(0,1,0),(1,0,0),(0,0,1)]", "turn",
             "undo", "redo", "keep a1", "to a1", "show", "left", "paid", "order", "way", "nails", "at 2", "goal", "goal{}",
             "put 1 []", "lead []"]

    def lexemes(self, line):
        signs = "()[]{},;"
        for sign in signs:
            line = line.replace(sign, " " + sign + " ")
        return line.split()

    def test_blanks_and_line_feeds(self):
        chance = random.Random(3)
        for line in self.LINES:
            answers = set()
            for between in [" ", "\n", "   ", " \n ", "\n\n", None]:
                for ends in ["", " ", "\n", "  \n  "]:
                    words = self.lexemes(line)
                    spaced = words[0]
                    for before, after in zip(words, words[1:]):
                        gap = between if between is not None else chance.choice([" ", "\n", "  "])
                        spaced += gap + after
                    house = House(F)
                    Console(house).say("keep a1")
                    answers.add((Console(house).say(ends + spaced + ends), repr(state(house)[4])))
            self.assertEqual(len(answers), 1, line)

    def test_none_between_lexemes(self):
        for line in self.LINES:
            words = self.lexemes(line)
            short = words[0]
            for before, after in zip(words, words[1:]):
                glued = before[-1].isalnum() and after[0].isalnum() and not (before.isdigit() and after[0].isalpha())
                short += (" " if glued else "") + after
            one, other = House(F), House(F)
            self.assertEqual(Console(one).say(short), Console(other).say(line), short)
            self.assertEqual(one, other)

    def test_a_number_ends_where_no_digit_follows(self):
        house = House(F)
        self.assertEqual(Console(house).say("put 1[(0,1,0)]"), "1")
        self.assertEqual(Console(house).say("goal{[(1,0,0)];[(1,0,0),(0,1,0)];}"), "2")
        self.assertEqual(Console(house).say("at\n1"), "[(0, 1, 0)]")

    def test_tabs_begin_no_lexeme(self):
        console = Console(House(F))
        self.refused(console, "\tshow", "no BadText 0")
        self.refused(console, "show\t", "no BadText 4")
        self.refused(console, "put\t1 [(0, 1, 0)]", "no BadText 3")


class WrongPlaces(Lines):
    def test_first_words(self):
        console = Console(House(F))
        for line, place in [("", 0), (" ", 1), (" \n ", 3), ("shows", 0), ("  Show", 2), ("1", 0), (" (", 1), ("put1", 0),
                            ("nest", 0), ("none", 0), ("!", 0), ("-", 0), ("goals {}", 0), ("a show", 0), ("; show", 0),
                            ("abcdefghijklm", 0), ("  abcdefghijklm", 2), ("do turn", 0), ("0 show", 0), ("\n!show", 1)]:
            self.refused(console, line, "no BadText " + str(place))

    def test_lines_that_are_not_complete(self):
        console = Console(House(F))
        for line in ["put", "put ", "put 1", "put 1 [", "put 1 [(", "put 1 [(0", "put 1 [(0,", "put 1 [(0, 1", "put 1 [(0, 1)",
                     "put 1 [(0, 1, 0),", "nail", "nail  ", "free\n", "goal {", "goal { ", "goal {[(1, 0, 0)]", "goal {[];",
                     "goal {[]; [", "lead", "lead [", "lead [()", "lead [(),", "keep", "keep ", "at", "to", "to  \n"]:
            self.refused(console, line, "no BadText " + str(len(line)))

    def test_lexemes_that_do_not_fit(self):
        console = Console(House(F))
        for line in ["show |1", "turn |turn", "undo |undo", "redo |2", "left |left", "paid |0", "order |(", "way |;",
                     "nails |1", "keep |1", "keep |(", "keep a |b", "keep a|;", "to |0", "to a |a", "at |x", "at |[",
                     "at 1 |2", "at 0|1", "at 0|0", "nail |x", "nail 1 |1", "free |[", "free 1 |;", "put |x", "put |[", "put 1 |1",
                     "put 1 |(0", "put 1 [|0", "put 1 [|,", "put 1 [(|,", "put 1 [(0|;", "put 1 [(0,|)", "put 1 [(0, |,",
                     "put 1 [(0) |(", "put 1 [(0),|]", "put 1 [(0)]|;", "put 1 [(0)] |1", "put 1 []|[", "put 0|12 [(0)]",
                     "put 0|0 [(0)]", "goal |x", "goal |[", "goal |1", "goal {|1", "goal {|;", "goal {[]|}", "goal {[]|,",
                     "goal {[]; |;", "goal {[];} |;", "goal {} |x", "goal {}|{", "goal {[(1|(", "lead |(", "lead |1", "lead |{",
                     "lead []|;", "lead [] |[", "lead [(1,0)|(", "lead [(1 |0", "show |show", "at 1|x", "goal |goal", "show |}",
                     "put 1 [(0, 1, 0)] |!", "show |!", "goal |!", "keep |!", "keep |A", "keep a|-b", "keep |abcdefghijklm",
                     "put |-1 [(0)]", "at |-1", "at 1|.5", "nail 1 |\t", "goal {[(0)]; |!", "to |?", "lead [(|!"]:
            self.refused(console, line.replace("|", "", 1), "no BadText " + str(line.index("|")))

    def test_the_first_of_several(self):
        console = Console(House(F))
        self.refused(console, "put x ! y", "no BadText 4")
        self.refused(console, "put ! x", "no BadText 4")
        self.refused(console, "! put", "no BadText 0")
        self.refused(console, "lead {", "no BadText 5")
        self.refused(console, "goal {[(0, 1)]; x}", "no BadText 16")

    def test_a_text_is_read_before_anything_is_done(self):
        console = Console(House(F))
        for line, place in [("turn !", 5), ("undo x", 5), ("redo 1", 5), ("keep a b", 7), ("at 9 9", 5), ("to b 1", 5),
                            ("nail 9 9", 7), ("put 9 [] ;", 9), ("lead [] x", 8), ("goal {} }", 8)]:
            self.refused(console, line, "no BadText " + str(place))

    def test_numbers_without_unnecessary_zeros(self):
        console = Console(House(F))
        self.refused(console, "at 01", "no BadText 4")
        self.refused(console, "put 1 [(00, 1, 0)]", "no BadText 9")
        self.assertEqual(console.say("at 1"), "[(1, 0, 0)]")


class Refused(Lines):
    def test_acts(self):
        house = House(F)
        console = Console(house)
        for line, word in [("put 1 [(1, 0, 0)]", "deed"), ("put 0 []", "deed"), ("put 3 [(1, 0, 0)]", "deed"),
                           ("put 1 [(0, 2, 0)]", "deed"), ("put 1 [(0, 1)]", "deed"), ("put 1 [()]", "deed"),
                           ("nail 0", "level"), ("nail 3", "level"), ("free 1", "level"), ("nail " + "9" * 40, "level"),
                           ("goal {}", "nest"), ("goal {[(1, 0, 0)];}", "nest"), ("goal {[]; [];}", "nest"),
                           ("goal {[(1, 0, 0)]; [(0, 1, 0), (1, 0, 0)];}", "nest"), ("lead []", "map"),
                           ("lead [(1, 0, 0), (0, 1, 0), (1, 1, 0)]", "map"), ("lead [(1, 0), (0, 1)]", "map"),
                           ("lead [(1, 0, 0), (0, 1, 0), (0, 0, 2)]", "map")]:
            self.refused(console, line, "no BadAct " + word)
        console.say("nail 1")
        self.refused(console, PUT, "no BadAct nail")
        self.refused(console, "nail 1", "no BadAct level")
        self.refused(console, act_line(("goal", tuple(H.codes()))), "no BadAct nail")
        self.assertEqual(console.say(act_line(("goal", tuple(OTHER.codes())))), "2")
        self.refused(console, "nail 2", "no BadAct goal")

    def test_nothing_done(self):
        console = Console(House(F))
        self.refused(console, "undo", "no NothingDone")
        self.refused(console, "redo", "no NothingDone")
        console.say("turn")
        console.say("undo")
        self.refused(console, "undo", "no NothingDone")
        self.assertEqual(console.say("redo"), "1")
        self.refused(console, "redo", "no NothingDone")

    def test_no_level(self):
        console = Console(House(F))
        for number in ["4", "5", "10", "9" * 40]:
            self.refused(console, "at " + number, "no NoLevel")

    def test_many(self):
        console = Console(House(F))
        for k in range(120):
            self.assertEqual(console.say("turn"), str(k + 1))
        self.refused(console, "turn", "no BadAct many")
        self.refused(console, "free 1", "no BadAct level")
        self.refused(console, "turn x", "no BadText 5")
        self.assertEqual(console.say("undo"), "119")
        self.assertEqual(console.say("redo"), "120")

    def test_undone_acts_stay(self):
        console = Console(House(F))
        console.say(PUT)
        console.say("undo")
        for line in ["put 9 []", "x", "at 9", "to a", "undo", "show", "left"]:
            console.say(line)
        self.assertEqual(console.house().undone(), [("put", 1, ((0, 1, 0),))])
        self.assertEqual(console.say("redo"), "1")


class Houses(Lines):
    def test_two_consoles_of_one_house(self):
        house = House(F)
        one, other = Console(house), Console(house)
        self.assertIs(one.house(), house)
        self.assertIs(other.house(), house)
        self.assertEqual(one.say(PUT), "1")
        self.assertEqual(other.say("turn"), "2")
        self.assertEqual(one.say("undo"), "1")
        self.assertEqual(other.say("keep a"), "1")
        self.assertEqual(one.say("to a"), "0")
        house.do(("nail", 1))
        self.assertEqual([console.say("nails") for console in [one, other]], ["1", "1"])
        self.assertEqual(one.say("show"), other.say("show"))

    def test_a_twin_goes_its_own_way(self):
        house = House(F)
        console, other = Console(house), Console(house.twin())
        console.say(PUT)
        self.assertEqual(other.say("paid"), "0")
        self.assertIsNot(console.house(), other.house())

    def test_equal_consoles(self):
        self.assertEqual(Console(House(F)), Console(House(Nest(F.ground(), F.codes()))))
        self.assertNotEqual(Console(House(F)), Console(House(G)))
        self.assertNotEqual(Console(House(F)), House(F))

    def test_houses_beside_one_another(self):
        one = House(standard(Ground(2, 2)))
        one.do(("goal", (((0, 1),),)))
        console = Console(beside(one, one))
        self.assertEqual(console.say("show"), "[(1, 0, 0, 0)]; [(1, 0, 0, 0), (0, 1, 0, 0)]; "
                                              "[(1, 0, 0, 0), (0, 1, 0, 0), (0, 0, 1, 0)]")
        self.assertEqual(console.say("order"), "1, 0, 3, 2")
        self.assertEqual(console.say("left"), "2")
        self.assertIn(console.say("way").split("; ")[0][:2], ["1 ", "3 "])


class LongLines(Lines):
    def test_twenty_thousand_characters(self):
        console = Console(House(F))
        wide = 20000
        self.assertEqual(console.say(" " * (wide - 4) + "show"), console.say("show" + "\n" * (wide - 4)))
        self.refused(console, " " * wide, "no BadText " + str(wide))
        self.refused(console, "a" * wide, "no BadText 0")
        self.refused(console, "(" * wide, "no BadText 0")
        self.refused(console, "show " + "(" * (wide - 5), "no BadText 5")
        self.refused(console, "lead [" + "()," * 6000, "no BadText 18006")
        self.refused(console, "lead [" + "()," * 6000 + "()]", "no BadAct map")
        self.refused(console, "goal {" + "[];" * 6000 + "}", "no BadAct nest")
        self.refused(console, "goal {" + "[];" * 6000 + "!", "no BadText 18006")
        self.refused(console, "put 1 [(" + "1," * 9900 + "1)]", "no BadAct deed")
        self.refused(console, "put 1 [(" + "1," * 9900 + ")]", "no BadText 19808")
        self.refused(console, "put 1 [(" + ("9" * 40 + ",") * 450 + "0)]", "no BadAct deed")
        line = "put" + " " * 9000 + "1" + "\n" * 9000 + "[(0, 1, 0)]"
        self.assertEqual(console.say(line), "1")
