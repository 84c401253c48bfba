"""The names of the interface: where they are defined, and which arguments they take."""

import importlib
import inspect
import unittest

FUNCTIONS = {
    "words": {"is_word": 1, "is_number": 1},
    "grounds": {"is_prime": 1},
    "rows": {"check_row": 2, "added": 3, "subtracted": 3, "scaled": 3, "dot": 3, "combined": 3, "pivot": 1,
             "row_at": 2, "row_number": 2, "all_rows": 1},
    "squares": {"reduced": 2, "rank": 2, "relation": 2, "judge_relation": 3, "solve": 3, "product": 3,
                "inverse": 2, "determinant": 2},
    "codes": {"check_code": 2, "code_of": 2, "pivots": 1, "rest": 3, "is_in": 3, "is_within": 3, "rows_of": 2,
              "row_outside": 3},
    "meets": {"common": 3, "joined": 3, "complement": 2, "between_codes": 3, "all_codes_between": 3},
    "codecounts": {"count_codes": 2, "count_between": 4, "code_at": 3, "code_number": 2, "all_codes": 2,
                   "next_code": 2},
    "nests": {"standard": 1},
    "parts": {"part_of": 2, "is_over": 2},
    "deeds": {"is_deed": 2, "done": 2, "taken_back": 2, "deeds_at": 2, "all_deeds": 1},
    "scripts": {"walked": 2, "steps": 2, "turned_back": 2, "first_bad": 2, "levels_of": 1},
    "lexemes": {"lexemes": 1},
    "printer": {"ground_text": 1, "row_text": 1, "code_text": 1, "nest_text": 1, "part_text": 1, "script_text": 1},
    "reader": {"read_ground": 1, "read_row": 2, "read_code": 2, "read_nest": 2, "read_part": 2, "read_script": 1},
    "orders": {"is_order": 2, "inversions": 1, "turned_back": 1, "sorting_steps": 1, "stepped": 2},
    "differences": {"table_of": 2, "order_of": 2, "table_from": 1, "order_from": 1},
    "frames": {"frame_of": 2, "is_frame": 3, "judge_frame": 3, "count_frames": 2, "nests_of": 3},
    "ways": {"near_code": 3, "deeds_apart": 2, "way": 3, "any_way": 2, "judge_way": 3, "change": 3, "begins": 3,
             "first_deeds": 2, "kept_levels": 2, "nearest": 2},
    "between": {"is_between": 3, "all_between": 2, "count_between": 2, "nest_between": 3},
    "levelrows": {"judge_levels": 2, "first_row": 1, "count_rows": 1, "row_at": 2, "row_number": 2, "is_plain": 1,
                  "falling_places": 1},
    "below": {"rising": 1, "falling": 1, "turned_pairs": 1, "is_below": 2, "orders_below": 1, "count_below": 1},
    "prices": {"price_of": 2, "least_price": 2, "greatest_price": 2, "cheapest": 2},
    "counting": {"step_count": 2, "step_product": 2, "count_nests": 1, "orders_with": 2, "count_at": 2,
                 "count_away": 2, "count_over": 1, "mean_away": 1},
    "numbering": {"normal_order": 1, "normal_rows": 1, "digits": 1, "nest_of": 3, "nest_off": 3, "off": 2,
                  "nest_at": 2, "number_of": 1, "next_nest": 1, "nests_from": 1, "drawn": 2},
    "maps": {"is_map": 2, "check_map": 2, "unit_map": 1, "led_row": 3, "led_code": 3, "then": 3, "turned_back": 2,
             "count_maps": 1, "all_maps": 1},
    "leading": {"led": 2, "led_part": 2, "leads": 5, "map_between": 4, "nest_map": 2, "leading_paper": 4,
                "judge_leading": 5, "count_leading": 4, "maps_kept": 2, "count_keeping": 1, "all_kept": 2},
    "gates": {"gate": 2, "inversions_within": 2, "count_over_order": 3, "all_over": 1},
    "tables": {"part_table": 2, "part_frame": 2, "judge_part_frame": 3, "map_of_parts": 4, "count_table": 2,
               "part_with": 2, "all_tables": 2},
    "sharing": {"fresh": 2, "share": 1, "judge_share": 2},
    "opposites": {"are_opposite": 2, "count_opposite": 1, "lines_of": 2, "opposite_to": 1},
    "sides": {"turned_code": 2, "turned": 1, "turned_order": 1, "coordinates": 3, "short_rest": 3, "within": 2,
              "beyond": 2},
    "goals": {"left_after": 3, "waste": 3, "barred_levels": 3, "nest_beside": 2},
    "acts": {"act_word": 2, "after": 2},
    "house": {"beside": 2, "parted": 2},
}

KEYWORDS = {"nests_from": {"number": 0, "many": 10}}

CLASSES = {
    "grounds": {"Ground": {"__init__": 2, "p": 0, "n": 0, "zero": 0, "units": 0, "inverse_of": 1, "__eq__": 1}},
    "nests": {"Nest": {"__init__": 2, "ground": 0, "codes": 0, "code": 1, "__eq__": 1}},
    "parts": {"Part": {"__init__": 2, "ground": 0, "codes": 0, "ranks": 0, "blocks": 0, "__eq__": 1}},
    "house": {"House": {"__init__": 1, "nest": 0, "goal": 0, "nails": 0, "stand": 0, "do": 1, "undo": 0, "redo": 0,
                        "done": 0, "undone": 0, "tried": 1, "would": 1, "paid": 0, "left": 0, "waste": 0, "way": 0,
                        "next_deeds": 0, "keep": 1, "marks": 0, "marked": 1, "deeds_to": 1, "twin": 0, "__eq__": 1}},
    "console": {"Console": {"__init__": 1, "house": 0, "say": 1}},
}

ERRORS = {"NestError": None, "UnlikeGrounds": 0, "TooGreat": 0, "NothingDone": 0, "BadGround": 1, "BadRow": 1,
          "BadCode": 1, "BadNest": 1, "BadPart": 1, "BadMap": 1, "BadOrder": 1, "BadDeed": 1, "BadLevels": 1,
          "BadText": 1, "BadAct": 1, "NameMissing": None, "NoLevel": 1, "UnknownName": 1}


def module_of(name):
    return importlib.import_module("codenests." + name)


def takes(function):
    """How many arguments a function takes by position, and by keyword its defaults."""
    found = inspect.signature(function).parameters.values()
    positional = [one for one in found if one.kind == inspect.Parameter.POSITIONAL_OR_KEYWORD]
    keywords = {one.name: one.default for one in found if one.kind == inspect.Parameter.KEYWORD_ONLY}
    assert len(positional) + len(keywords) == len(found)
    return len(positional), keywords


class Interface(unittest.TestCase):
    def test_functions(self):
        for file, functions in FUNCTIONS.items():
            for name, many in functions.items():
                function = getattr(module_of(file), name)
                self.assertTrue(inspect.isfunction(function), name)
                self.assertEqual(function.__module__, "codenests." + file, name)
                self.assertEqual(takes(function), (many, KEYWORDS.get(name, {})), name)

    def test_classes(self):
        for file, classes in CLASSES.items():
            for name, methods in classes.items():
                found = getattr(module_of(file), name)
                self.assertEqual(found.__module__, "codenests." + file, name)
                for method, many in methods.items():
                    self.assertIn(method, vars(found), name)
                    self.assertEqual(takes(vars(found)[method]), (many + 1, {}), method)

    def test_errors(self):
        for name, many in ERRORS.items():
            found = getattr(module_of("errors"), name)
            self.assertEqual(found.__module__, "codenests.errors")
            if many == 0:
                found()
            elif many == 1:
                self.assertEqual(takes(vars(found)["__init__"]), (2, {}), name)
