"""What 0.2 promises of every call: nothing passed is changed, and lists are new."""

import copy
import unittest

from codenests.console import Console
from codenests.errors import NameMissing, NestError
from codenests.grounds import Ground
from codenests.house import House
from codenests.nests import Nest
from codenests.parts import Part
from tests.calls import calls

PREDICATES = {"is_word", "is_number", "is_prime", "judge_relation", "judge_relation list", "is_in", "is_within",
              "is_over", "is_deed", "is_deed list", "is_order", "is_order list", "is_frame", "is_frame list",
              "judge_frame", "judge_frame list", "begins", "is_between", "is_plain", "is_below", "is_map", "is_map list",
              "leads", "leads list", "judge_leading", "judge_leading list", "judge_part_frame",
              "judge_part_frame bad member", "judge_share", "judge_share fresh", "judge_share list", "are_opposite"}

RETURN_LISTS = {"all_rows", "rows_of", "between_codes", "all_codes_between", "all_codes", "nest codes", "part codes",
                "deeds_at", "all_deeds", "steps", "turned_back", "levels_of", "lexemes", "read_script",
                "sorting_steps", "way", "any_way", "first_deeds", "kept_levels", "all_between",
                "first_row", "levelrows row_at", "turned_pairs", "orders_below", "cheapest", "normal_rows", "digits",
                "nests_from", "nests_from keywords", "all_maps", "all_kept", "all_over", "part_frame", "all_tables",
                "all_tables none", "lines_of", "left_after", "barred_levels", "house nails", "house done",
                "house undone", "house way", "house next_deeds", "house marks"}

OBJECTS = (Ground, Nest, Part, House, Console)


def outcome(function, arguments):
    """What a call returns, or the class and the attributes of what it raises."""
    try:
        return "returned", function(*arguments)
    except (NestError, NameMissing) as error:
        return type(error), vars(error)


def lists_in(value):
    """All lists and dicts in a value, those inside others, too."""
    if isinstance(value, (list, dict)):
        inner = list(value.values()) if isinstance(value, dict) else value
        return [value] + [one for part in inner for one in lists_in(part)]
    if isinstance(value, tuple):
        return [one for part in value for one in lists_in(part)]
    return []


def is_plain(value):
    """Whether a value is made of plain values, of no class of its own."""
    if type(value) in (list, tuple):
        return all(is_plain(part) for part in value)
    return value is None or type(value) in (int, str) or isinstance(value, OBJECTS)


def swapped(value):
    """A list as a tuple, with its inner lists; all else as it is."""
    if isinstance(value, list):
        return tuple(swapped(part) for part in value)
    return value


class EveryCall(unittest.TestCase):
    def test_nothing_that_is_passed_is_changed(self):
        for name, function, arguments in calls():
            # The object whose method is called stays the same, too.
            passed = [arguments, getattr(function, "__self__", None)]
            before = copy.deepcopy(passed)
            outcome(function, arguments)
            self.assertEqual(passed, before, name)

    def test_what_is_returned_keeps_no_list_that_was_passed(self):
        for name, function, arguments in calls():
            kind, value = outcome(function, arguments)
            if kind == "returned":
                wanted = copy.deepcopy(value)
                for one in lists_in(arguments):
                    one.clear()
                self.assertEqual(value, wanted, name)

    def test_a_repeated_call_answers_alike(self):
        for (name, function, arguments), (_, again, others) in zip(calls(), calls()):
            first = outcome(function, arguments)
            self.assertEqual(outcome(function, arguments), first, name)
            self.assertEqual(outcome(again, others), first, name)

    def test_lists_that_are_returned_are_new(self):
        for name, function, arguments in calls():
            kind, value = outcome(function, arguments)
            _, again = outcome(function, arguments)
            if kind == "returned":
                found = lists_in(value) + lists_in(again)
                passed = [id(one) for one in lists_in(arguments)]
                self.assertEqual(len({id(one) for one in found}), len(found), name)
                self.assertFalse(any(id(one) in passed for one in found), name)

    def test_a_list_that_is_returned_belongs_to_the_caller(self):
        for name, function, arguments in calls():
            kind, value = outcome(function, arguments)
            if kind == "returned" and lists_in(value):
                wanted = copy.deepcopy(value)
                for one in lists_in(value):
                    one.clear()
                self.assertEqual(outcome(function, arguments), (kind, wanted), name)

    def test_tuples_count_as_lists(self):
        judged = {"is_word", "is_number", "is_prime", "Ground bad p", "Ground bad n"}
        endings = (" list", " entry", " row", " bad code", " no code", " no level", " member")
        for name, function, arguments in calls():
            if name not in judged and not name.endswith(endings):
                self.assertEqual(outcome(function, swapped(arguments)), outcome(function, arguments), name)

    def test_what_is_returned_is_plain(self):
        for name, function, arguments in calls():
            kind, value = outcome(function, arguments)
            if kind == "returned":
                if name in PREDICATES:
                    self.assertIs(type(value), bool, name)
                else:
                    self.assertTrue(is_plain(value), name)

    def test_lists_are_returned_where_the_document_says_so(self):
        for name, function, arguments in calls():
            kind, value = outcome(function, arguments)
            if kind == "returned":
                self.assertEqual(len(lists_in(value)), 1 if name in RETURN_LISTS else 0, name)
                self.assertEqual(isinstance(value, list), name in RETURN_LISTS, name)
