"""The sentences of 0.2 and 0.3, over the whole program.

`test_calls` has those that can be seen in one call of each function.
"""

import copy
import pathlib
import re
import unittest

from codenests import (acts, between, codes, codecounts, counting, deeds, differences, errors, frames, grounds, house,
                       leading, levelrows, lexemes, maps, nests, numbering, orders, parts, reader, rows, scripts,
                       sharing, squares, tables, ways, words)
from codenests.console import Console
from codenests.errors import NameMissing, NestError
from codenests.grounds import Ground
from codenests.house import House
from codenests.nests import Nest
from codenests.parts import Part
from tests.anything import GREAT, NEGATIVE, deep, no_integers
from tests.calls_of_houses import made_house
from tests.calls_of_maps import HIGH, LOW, MAP, one_nest, other_nest

GROUND = Ground(3, 3)
F, G = one_nest(), other_nest()
PART = Part(GROUND, [HIGH])
ROWS = [(1, 2, 0), (2, 1, 0)]
DEED = (1, ((0, 1, 1),))
STAND = (F, (2,), None)


def asked(method):
    """A call of a method of a house that is made anew."""
    return lambda value: getattr(made_house(), method)(value)


# Each place of the interface at which a value may be anything.
ANYTHING = {
    "is_word": words.is_word, "is_number": words.is_number, "is_prime": grounds.is_prime,
    "Ground p": lambda value: Ground(value, 3), "Ground n": lambda value: Ground(3, value),
    "check_row": lambda value: rows.check_row(GROUND, value),
    "judge_relation": lambda value: squares.judge_relation(GROUND, ROWS, value),
    "check_code": lambda value: codes.check_code(GROUND, value),
    "Nest": lambda value: Nest(GROUND, value), "code": F.code, "Part": lambda value: Part(GROUND, value),
    "is_deed": lambda value: deeds.is_deed(F, value), "done": lambda value: deeds.done(F, value),
    "taken_back": lambda value: deeds.taken_back(F, value), "deeds_at": lambda value: deeds.deeds_at(F, value),
    "walked member": lambda value: scripts.walked(F, [value]), "steps member": lambda value: scripts.steps(F, [value]),
    "turned_back member": lambda value: scripts.turned_back(F, [DEED, value]),
    "first_bad": lambda value: scripts.first_bad(F, value),
    "is_order": lambda value: orders.is_order(2, value), "stepped": lambda value: orders.stepped((1, 2, 0), value),
    "order_from": differences.order_from, "is_frame": lambda value: frames.is_frame(F, G, value),
    "judge_frame": lambda value: frames.judge_frame(F, G, value),
    "nests_of rows": lambda value: frames.nests_of(GROUND, value, (1, 2, 0)),
    "nests_of order": lambda value: frames.nests_of(GROUND, MAP, value),
    "near_code": lambda value: ways.near_code(F, G, value), "way member": lambda value: ways.way(F, G, [value]),
    "judge_way": lambda value: ways.judge_way(F, G, value), "change": lambda value: ways.change(F, G, value),
    "begins": lambda value: ways.begins(F, G, value),
    "nest_between": lambda value: between.nest_between(F, G, value),
    "judge_levels": lambda value: levelrows.judge_levels((2, 1, 0), value),
    "row_number member": lambda value: levelrows.row_number((2, 1, 0), [1, value]),
    "count_at": lambda value: counting.count_at(GROUND, value),
    "nest_of order": lambda value: numbering.nest_of(GROUND, value, [1, 2]),
    "nest_of digits": lambda value: numbering.nest_of(GROUND, (1, 2, 0), value),
    "nest_off order": lambda value: numbering.nest_off(F, value, [1, 2]),
    "nest_off digits": lambda value: numbering.nest_off(F, (1, 2, 0), value),
    "is_map": lambda value: maps.is_map(GROUND, value), "check_map": lambda value: maps.check_map(GROUND, value),
    "led_row": lambda value: maps.led_row(GROUND, value, (1, 2, 0)),
    "led_code": lambda value: maps.led_code(GROUND, value, HIGH),
    "then one": lambda value: maps.then(GROUND, value, MAP), "then other": lambda value: maps.then(GROUND, MAP, value),
    "maps turned_back": lambda value: maps.turned_back(GROUND, value),
    "led": lambda value: leading.led(F, value), "led_part": lambda value: leading.led_part(PART, value),
    "leads": lambda value: leading.leads(F, G, F, G, value),
    "judge_leading": lambda value: leading.judge_leading(F, G, F, G, value),
    "judge_part_frame": lambda value: tables.judge_part_frame(PART, PART, value),
    "judge_share": lambda value: sharing.judge_share([F, G], value),
    "act_word": lambda value: acts.act_word(STAND, value), "after": lambda value: acts.after(STAND, value),
    "put level": lambda value: acts.act_word(STAND, ("put", value, HIGH)),
    "put code": lambda value: acts.act_word(STAND, ("put", 1, value)),
    "nail": lambda value: acts.act_word(STAND, ("nail", value)),
    "free": lambda value: acts.act_word(STAND, ("free", value)),
    "goal": lambda value: acts.act_word(STAND, ("goal", value)),
    "lead": lambda value: acts.act_word(STAND, ("lead", value)),
    "do": asked("do"), "tried member": lambda value: made_house().tried([value]),
    "would member": lambda value: made_house().would([value]), "keep": asked("keep"), "marked": asked("marked"),
    "deeds_to": asked("deeds_to"), "parted": lambda value: house.parted(House(F), value),
}


def values():
    """Values of all kinds that may be passed as anything, made anew at each call."""
    objects = [GROUND, F, PART, House(F), Console(House(F)), errors.NestError(), errors.BadRow((1,))]
    plain = [0, 1, 2, 3, GREAT, (1, 2, 0), [1, 2, 0], (1, 2), [1, 2], ["form"], LOW, HIGH, MAP, DEED, [DEED], (DEED,),
             ((2, 1, 0), MAP), ("map", MAP), ("frame", MAP), ("turn",), ("put",) + DEED, ("goal", None), "start",
             [(1, 2, 0), 1, 1], ((1, 2, 0), 1, 1), [1, 2, 1], (2, 1, 2), {"map": MAP}, ["a", {"b": ()}], [None, [True]]]
    return no_integers() + NEGATIVE + plain + objects + [(one,) for one in objects] + [[one, one] for one in objects] \
        + [deep(F), {"a": House(F)}, (1, F), ("map", F), ("goal", [F]), ((F, G), (1, 2))]


def outcome(function, value):
    try:
        return "returned", function(value)
    except (NestError, NameMissing) as error:
        return type(error), vars(error)


class Anything(unittest.TestCase):
    def test_no_other_errors(self):
        for name, function in ANYTHING.items():
            for value, again in zip(values(), values()):
                before = copy.deepcopy(value)
                found = outcome(function, value)
                kind, told = found
                if kind != "returned":
                    self.assertTrue(kind.__module__ == "codenests.errors", name)
                if not self.has_error(value):
                    self.assertEqual(value, before, name)
                    self.assertEqual(outcome(function, value), found, name)
                    self.assertEqual(outcome(function, again), found, name)

    def has_error(self, value):
        """Whether a value has an error in it, which is equal to itself alone."""
        inner = value if isinstance(value, (list, tuple)) else value.values() if isinstance(value, dict) else []
        return isinstance(value, (NestError, NameMissing)) or any(self.has_error(one) for one in inner)


class TrueAndFalse(unittest.TestCase):
    """In what may be anything True and False are not numbers."""

    def refused(self, wanted, function, *arguments):
        with self.assertRaises(wanted):
            function(*arguments)

    def test_they_are_refused_as_numbers(self):
        two, one = Ground(2, 2), Ground(2, 1)
        f, g = (Nest(two, [(row,)]) for row in [(1, 0), (0, 1)])
        for value in [True, False]:
            self.assertIs(words.is_number(value), False)
            self.assertIs(grounds.is_prime(value), False)
            self.refused(errors.BadGround, Ground, value, 1)
            self.refused(errors.BadGround, Ground, 2, value)
            self.refused(errors.BadRow, rows.check_row, one, (value,))
            self.refused(errors.NoLevel, f.code, value)
            self.refused(errors.NoLevel, deeds.deeds_at, f, value)
            self.refused(errors.NoLevel, orders.stepped, (1, 0), value)
            self.refused(errors.NoLevel, ways.near_code, f, g, value)
            self.refused(errors.NoLevel, house.parted, House(f), value)
            self.refused(errors.BadMap, maps.check_map, one, ((value,),))
            self.assertEqual(acts.act_word((f, (), None), ("nail", value)), "level")
            self.assertEqual(acts.act_word((f, (1,), None), ("free", value)), "level")
        self.refused(errors.BadCode, codes.check_code, one, ((True,),))
        self.refused(errors.BadNest, Nest, two, [((True, 0),)])
        self.refused(errors.BadPart, Part, two, [((1, False),)])
        self.refused(errors.BadOrder, counting.count_at, two, (False, True))
        self.refused(errors.BadOrder, numbering.nest_of, two, (True, 0), [0])
        self.refused(errors.BadRow, numbering.nest_of, two, (1, 0), [True])
        self.refused(errors.BadLevels, ways.way, f, g, [True])
        self.refused(errors.BadLevels, levelrows.row_number, (1, 0), [True])
        self.refused(errors.BadDeed, deeds.done, f, (True, ((0, 1),)))
        self.refused(errors.BadDeed, scripts.walked, f, [(1, ((False, 1),))])
        self.refused(errors.BadAct, made_house().do, ("put", True, ((0, 1, 1),)))
        self.assertIs(squares.judge_relation(two, [(1, 0), (1, 0)], (True, True)), False)
        self.assertIs(orders.is_order(2, (True, False)), False)
        self.assertIsNone(differences.order_from(((False, False), (False, True))))
        self.assertIs(frames.is_frame(f, g, ((1, 0), (0, True))), False)
        self.assertIs(frames.judge_frame(f, g, ((True, 0), ((1, 0), (0, 1)))), False)
        self.assertIsNone(frames.nests_of(two, two.units(), (True, False)))
        self.assertIsNone(between.nest_between(f, g, (True, False)))
        self.assertEqual(ways.judge_way(f, g, [(True, ((0, 1),))]), ("deed", 0))
        self.assertEqual(levelrows.judge_levels((1, 0), [True]), ("levels", 0))
        self.assertIs(leading.leads(f, f, f, f, ((True, 0), (0, 1))), False)
        self.assertIs(leading.judge_leading(f, f, f, f, ("map", ((1, False), (0, 1)))), False)
        self.assertIs(sharing.judge_share([f, g], ("frame", ((True, 0), (0, 1)))), False)
        whole = Part(two, [])
        self.assertIs(tables.judge_part_frame(whole, whole, [((1, 0), 1, 1), ((0, 1), 1, True)]), False)
        self.assertEqual(acts.act_word((f, (), None), ("goal", (((True, 0),),))), "nest")

    def test_right_values_beside_them(self):
        two = Ground(2, 2)
        f, g = (Nest(two, [(row,)]) for row in [(1, 0), (0, 1)])
        whole = Part(two, [])
        self.assertIs(squares.judge_relation(two, [(1, 0), (1, 0)], (1, 1)), True)
        self.assertEqual(differences.order_from(((0, 0), (0, 1))), (0,))
        self.assertIs(frames.judge_frame(f, g, ((1, 0), ((1, 0), (0, 1)))), True)
        self.assertIsNone(ways.judge_way(f, g, [(1, ((0, 1),))]))
        self.assertIs(leading.judge_leading(f, f, f, f, ("map", two.units())), True)
        self.assertIs(sharing.judge_share([f, g], ("frame", ((1, 0), (0, 1)))), True)
        self.assertIs(tables.judge_part_frame(whole, whole, [((1, 0), 1, 1), ((0, 1), 1, 1)]), True)


class FromTheEnd(unittest.TestCase):
    def test_an_index_never_counts_from_the_end(self):
        for level in [-1, -2, -3, -GREAT]:
            for function in [F.code, lambda i: deeds.deeds_at(F, i), lambda i: ways.near_code(F, G, i),
                             lambda i: orders.stepped((1, 2, 0), i), lambda i: house.parted(House(F), i)]:
                with self.assertRaises(errors.NoLevel) as caught:
                    function(level)
                self.assertEqual(caught.exception.level, level)
            self.assertEqual(levelrows.judge_levels((1, 2, 0), [level]), ("levels", 0))
            for word in ["nail", "free"]:
                self.assertEqual(acts.act_word((F, (1, 2), None), (word, level)), "level")
            self.assertIs(deeds.is_deed(F, (level, DEED[1])), False)
            self.assertIs(orders.is_order(3, (0, 1, level)), False)
            self.assertIs(sharing.judge_share([F], ("fresh", (((level,), (1, 0, 2)),) * 4)), False)
            self.assertIs(tables.judge_part_frame(PART, PART, [((1, 0, 2), level, 1), ((0, 1, 1), 1, 1),
                                                               ((0, 0, 1), 2, 2)]), False)


class InTheOrderOfTheList(unittest.TestCase):
    """Where there are several errors for one call."""

    def raised(self, function, *arguments):
        try:
            function(*arguments)
        except (NestError, NameMissing) as error:
            return type(error).__name__, vars(error)
        return None

    def test_some_calls_with_two_faults(self):
        unlike = nests.standard(Ground(2, 4))
        self.assertEqual(self.raised(Ground, 4, -1), ("BadGround", {"path": (0,)}))
        self.assertEqual(self.raised(reader.read_ground, "ground 4 2"), ("BadText", {"place": 10}))
        self.assertEqual(self.raised(reader.read_row, GROUND, "(3, 3,)"), ("BadText", {"place": 6}))
        self.assertEqual(self.raised(ways.near_code, F, unlike, 9), ("UnlikeGrounds", {}))
        self.assertEqual(self.raised(ways.change, F, unlike, None), ("UnlikeGrounds", {}))
        self.assertEqual(self.raised(numbering.nest_of, GROUND, (0, 1, 3), [None]), ("BadOrder", {"path": (2,)}))
        self.assertEqual(self.raised(maps.then, GROUND, (None,) * 3, None), ("BadMap", {"path": (0,)}))
        self.assertEqual(self.raised(leading.leads, F, G, F, unlike, None), ("UnlikeGrounds", {}))
        self.assertEqual(self.raised(leading.all_kept, nests.standard(Ground(13, 6)), F), ("UnlikeGrounds", {}))
        self.assertEqual(self.raised(sharing.judge_share, [F, unlike], None), ("UnlikeGrounds", {}))
        full = House(F)
        full.tried([("turn",)] * 120)
        self.assertEqual(self.raised(full.do, ("nail", 9)), ("BadAct", {"word": "level"}))
        self.assertEqual(self.raised(full.do, ("turn",)), ("BadAct", {"word": "many"}))
        self.assertEqual(Console(full).say("nail 9 9"), "no BadText 7")
        self.assertEqual(codecounts.count_between(GROUND, HIGH, LOW, 9), 0)


class WhatObjectsKeep(unittest.TestCase):
    def test_lists_that_were_passed_are_not_kept(self):
        low = [LOW, HIGH]
        nest, part = Nest(GROUND, low), Part(GROUND, low)
        low.clear()
        self.assertEqual((nest.codes(), part.codes()), ([LOW, HIGH], [LOW, HIGH]))
        home, done = House(nest), [("turn",), ("turn",)]
        home.tried(done)
        home.would(done)
        done.clear()
        self.assertEqual(home.done(), [("turn",), ("turn",)])

    def test_errors_keep_what_was_passed(self):
        value = [[1], {"a": ()}]
        for wanted, name, function in [
                (errors.NoLevel, "level", F.code), (errors.NoLevel, "level", lambda one: house.parted(House(F), one)),
                (errors.UnknownName, "name", House(F).keep), (errors.UnknownName, "name", House(F).marked)]:
            with self.assertRaises(wanted) as caught:
                function(value)
            self.assertIs(getattr(caught.exception, name), value)

    def test_grounds_nests_and_partial_nests_never_change(self):
        ground, nest, part = Ground(3, 3), one_nest(), Part(GROUND, [HIGH])
        nest.codes().clear()
        part.codes().append(LOW)
        home = House(nest)
        home.tried([("put",) + DEED, ("turn",), ("lead", MAP)])
        self.assertEqual((ground, nest, part), (Ground(3, 3), one_nest(), Part(GROUND, [HIGH])))
        self.assertEqual([home.undo() for _ in range(3)], [2, 1, 0])
        self.assertEqual(home.nest(), one_nest())


class Words(unittest.TestCase):
    def test_marks_and_lexemes_have_the_same_words(self):
        for name, right in [("a", True), ("a" * 12, True), ("z0123456789a", True), ("a" * 13, False), ("", False),
                            ("0a", False), ("A", False), ("a_b", False), ("a b", False), ("a\n", False), ("a-", False)]:
            self.assertIs(words.is_word(name), right)
            home = House(F)
            if right:
                self.assertIsNone(home.keep(name))
                self.assertEqual(lexemes.lexemes(name), [("word", name, 0)])
            else:
                with self.assertRaises(errors.UnknownName):
                    home.keep(name)


class NoOtherSources(unittest.TestCase):
    def test_imports(self):
        """No clock, no random numbers and no files: nothing but these is imported."""
        allowed = {"itertools", "math"}
        folder = pathlib.Path(__file__).resolve().parent.parent / "codenests"
        for file in sorted(folder.glob("*.py")):
            found = re.findall(r"^\s*(?:from|import)\s+([\w.]+)", file.read_text(encoding="ascii"), re.MULTILINE)
            self.assertEqual([name for name in found if name not in allowed and not name.startswith("codenests.")], [])
