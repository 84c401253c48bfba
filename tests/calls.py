"""One call, at least, of each function: made anew by each call of `calls`.

A call is a name, the function and its arguments.
"""

from codenests import below, between, codecounts, codes, counting, deeds, differences, frames, grounds, levelrows
from codenests import lexemes, meets, nests, orders, parts, prices, printer, reader, rows, scripts, squares, ways, words
from codenests.grounds import Ground
from codenests.nests import Nest
from codenests.parts import Part
from tests import calls_of_houses, calls_of_maps

LIST = [(1, 2, 0), (2, 1, 1), (0, 0, 0), (1, 2, 0), (0, 1, 1)]
LOW = ((1, 0, 2),)
HIGH = ((1, 0, 2), (0, 1, 1))
SQUARE = ((1, 2, 0), (0, 1, 1), (2, 0, 2))
OTHER = ((1, 0, 0), (0, 0, 1))
FIRST = (1, ((0, 1, 1),))


def anything():
    return {"a": [1, (2, [3])], "b": ({}, [])}


def calls_of_words_and_grounds():
    return [
        ("is_word", words.is_word, [anything()]),
        ("is_word", words.is_word, ["abc"]),
        ("is_number", words.is_number, [[1, [2]]]),
        ("is_prime", grounds.is_prime, [[2, [3]]]),
        ("is_prime", grounds.is_prime, [7]),
        ("Ground", Ground, [3, 2]),
        ("Ground bad p", Ground, [[3], [2]]),
        ("Ground bad n", Ground, [3, {"n": [2]}]),
        ("p", Ground(3, 2).p, []),
        ("n", Ground(3, 2).n, []),
        ("zero", Ground(3, 2).zero, []),
        ("units", Ground(3, 2).units, []),
        ("inverse_of", Ground(7, 2).inverse_of, [3]),
        ("inverse_of 0", Ground(7, 2).inverse_of, [0]),
    ]


def calls_of_rows():
    ground = Ground(3, 3)
    return [
        ("check_row", rows.check_row, [ground, (1, 2, 0)]),
        ("check_row list", rows.check_row, [ground, [1, 2, 0]]),
        ("check_row entry", rows.check_row, [ground, (1, [2], 0)]),
        ("added", rows.added, [ground, (1, 2, 0), (2, 2, 1)]),
        ("subtracted", rows.subtracted, [ground, (1, 2, 0), (2, 2, 1)]),
        ("scaled", rows.scaled, [ground, 2, (2, 2, 1)]),
        ("dot", rows.dot, [ground, (1, 2, 0), (2, 2, 1)]),
        ("combined", rows.combined, [ground, [1, 2, 0, 2, 1], list(LIST)]),
        ("pivot", rows.pivot, [(0, 2, 1)]),
        ("row_at", rows.row_at, [ground, 5]),
        ("row_at beyond", rows.row_at, [ground, 27]),
        ("row_number", rows.row_number, [ground, (1, 2, 0)]),
        ("all_rows", rows.all_rows, [Ground(2, 2)]),
    ]


def calls_of_squares():
    ground = Ground(3, 3)
    return [
        ("reduced", squares.reduced, [ground, list(LIST)]),
        ("rank", squares.rank, [ground, list(LIST)]),
        ("relation", squares.relation, [ground, list(LIST)]),
        ("relation none", squares.relation, [ground, list(HIGH)]),
        ("judge_relation", squares.judge_relation, [ground, list(LIST), (1, 0, 0, 2, 0)]),
        ("judge_relation list", squares.judge_relation, [ground, list(LIST), [1, 0, 0, [2], 0]]),
        ("solve", squares.solve, [ground, list(LIST), (1, 1, 1)]),
        ("solve none", squares.solve, [ground, list(LOW), (1, 1, 1)]),
        ("product", squares.product, [ground, SQUARE, SQUARE]),
        ("inverse", squares.inverse, [ground, ((1, 2, 0), (0, 1, 1), (2, 0, 1))]),
        ("inverse none", squares.inverse, [ground, (LOW + HIGH)]),
        ("determinant", squares.determinant, [ground, SQUARE]),
    ]


def calls_of_codes():
    ground = Ground(3, 3)
    return [
        ("check_code", codes.check_code, [ground, HIGH]),
        ("check_code list", codes.check_code, [ground, list(HIGH)]),
        ("check_code row", codes.check_code, [ground, ((1, 0, 0), [0, 1, 0])]),
        ("code_of", codes.code_of, [ground, list(LIST)]),
        ("pivots", codes.pivots, [HIGH]),
        ("rest", codes.rest, [ground, HIGH, (1, 1, 1)]),
        ("is_in", codes.is_in, [ground, HIGH, (1, 1, 0)]),
        ("is_within", codes.is_within, [ground, LOW, HIGH]),
        ("rows_of", codes.rows_of, [ground, HIGH]),
        ("row_outside", codes.row_outside, [ground, HIGH, LOW]),
        ("row_outside none", codes.row_outside, [ground, LOW, HIGH]),
    ]


def calls_of_meets():
    ground = Ground(3, 3)
    return [
        ("common", meets.common, [ground, HIGH, OTHER]),
        ("joined", meets.joined, [ground, LOW, OTHER]),
        ("complement", meets.complement, [ground, HIGH]),
        ("between_codes", meets.between_codes, [ground, LOW, ground.units()]),
        ("all_codes_between", meets.all_codes_between, [ground, LOW, ground.units()]),
    ]


def calls_of_codecounts():
    ground = Ground(3, 3)
    return [
        ("count_codes", codecounts.count_codes, [ground, 2]),
        ("count_between", codecounts.count_between, [ground, LOW, ground.units(), 2]),
        ("code_at", codecounts.code_at, [ground, 2, 7]),
        ("code_at beyond", codecounts.code_at, [ground, 2, 13]),
        ("code_number", codecounts.code_number, [ground, HIGH]),
        ("all_codes", codecounts.all_codes, [ground, 2]),
        ("next_code", codecounts.next_code, [ground, HIGH]),
        ("next_code none", codecounts.next_code, [ground, ((0, 1, 0), (0, 0, 1))]),
    ]


def calls_of_nests_and_parts():
    ground = Ground(3, 3)
    nest = Nest(ground, [LOW, HIGH])
    part = Part(ground, [HIGH])
    return [
        ("Nest", Nest, [ground, [LOW, HIGH]]),
        ("Nest bad code", Nest, [ground, [LOW, [1, (2,)]]]),
        ("Nest bad rank", Nest, [ground, [HIGH, LOW]]),
        ("nest ground", nest.ground, []),
        ("nest codes", nest.codes, []),
        ("nest code", nest.code, [2]),
        ("nest no code", nest.code, [[2]]),
        ("standard", nests.standard, [ground]),
        ("Part", Part, [ground, [LOW, HIGH]]),
        ("Part bad code", Part, [ground, [LOW, [1, (2,)]]]),
        ("Part bad rank", Part, [ground, [HIGH, LOW]]),
        ("part ground", part.ground, []),
        ("part codes", part.codes, []),
        ("part ranks", part.ranks, []),
        ("part blocks", part.blocks, []),
        ("part_of", parts.part_of, [nest, [1, 2]]),
        ("is_over", parts.is_over, [nest, part]),
        ("is_over unlike", parts.is_over, [nest, Part(Ground(2, 3), [])]),
    ]


def calls_of_deeds_and_scripts():
    nest = Nest(Ground(3, 3), [LOW, HIGH])
    script = [FIRST, (2, ((1, 0, 0), (0, 1, 1))), (1, ((1, 0, 0),))]
    return [
        ("is_deed", deeds.is_deed, [nest, FIRST]),
        ("is_deed list", deeds.is_deed, [nest, [1, [[0, 1, 1]]]]),
        ("done", deeds.done, [nest, FIRST]),
        ("done list", deeds.done, [nest, list(FIRST)]),
        ("taken_back", deeds.taken_back, [nest, FIRST]),
        ("taken_back list", deeds.taken_back, [nest, list(FIRST)]),
        ("deeds_at", deeds.deeds_at, [nest, 1]),
        ("deeds_at no level", deeds.deeds_at, [nest, 3]),
        ("all_deeds", deeds.all_deeds, [nest]),
        ("walked", scripts.walked, [nest, list(script)]),
        ("walked bad", scripts.walked, [nest, script + [FIRST, FIRST]]),
        ("steps", scripts.steps, [nest, list(script)]),
        ("steps bad", scripts.steps, [nest, script + [FIRST, FIRST]]),
        ("turned_back", scripts.turned_back, [nest, list(script)]),
        ("turned_back bad", scripts.turned_back, [nest, script + [FIRST, FIRST]]),
        ("first_bad", scripts.first_bad, [nest, list(script)]),
        ("first_bad member", scripts.first_bad, [nest, script + [[FIRST]]]),
        ("levels_of", scripts.levels_of, [list(script)]),
    ]


def calls_of_texts():
    ground = Ground(3, 3)
    row, code = "(1, 2, 0)", "[(1, 0, 2), (0, 1, 1)]"
    nest = "nest {[(1, 0, 2)]; " + code + ";}"
    return [
        ("lexemes", lexemes.lexemes, ["nest { 007 }"]),
        ("lexemes wrong", lexemes.lexemes, ["nest { 007 !"]),
        ("ground_text", printer.ground_text, [ground]),
        ("row_text", printer.row_text, [(1, 2, 0)]),
        ("code_text", printer.code_text, [HIGH]),
        ("nest_text", printer.nest_text, [Nest(ground, [LOW, HIGH])]),
        ("part_text", printer.part_text, [Part(ground, [HIGH])]),
        ("script_text", printer.script_text, [[FIRST, (7, ((), (9,)))]]),
        ("read_ground", reader.read_ground, ["ground 3 2;"]),
        ("read_ground bad", reader.read_ground, ["ground 4 2;"]),
        ("read_ground wrong", reader.read_ground, ["ground 4 2"]),
        ("read_row", reader.read_row, [ground, row]),
        ("read_row bad", reader.read_row, [ground, "(1, 3, 0)"]),
        ("read_row wrong", reader.read_row, [ground, "(1, 3, 0,)"]),
        ("read_code", reader.read_code, [ground, code]),
        ("read_code bad", reader.read_code, [ground, "[(1, 2, 0), (1, 2, 0)]"]),
        ("read_code wrong", reader.read_code, [ground, row]),
        ("read_nest", reader.read_nest, [ground, nest]),
        ("read_nest bad", reader.read_nest, [ground, "nest {[(1, 0, 2)]; [(1, 0, 2), (0, 3, 1)];}"]),
        ("read_nest wrong", reader.read_nest, [ground, nest + nest]),
        ("read_part", reader.read_part, [ground, "part {" + code + ";}"]),
        ("read_part bad", reader.read_part, [ground, "part {" + code + "; " + code + ";}"]),
        ("read_part wrong", reader.read_part, [ground, nest]),
        ("read_script", reader.read_script, ["script {1 " + code + "; 0 [()];}"]),
        ("read_script wrong", reader.read_script, ["script {1 " + code + "}"]),
    ]


def two_nests():
    ground = Ground(3, 3)
    return [Nest(ground, [LOW, HIGH]), Nest(ground, [((0, 1, 2),), ((1, 0, 0), (0, 1, 2))])]


def calls_of_orders():
    return [
        ("is_order", orders.is_order, [3, (1, 2, 0)]),
        ("is_order list", orders.is_order, [3, [1, [2], 0]]),
        ("inversions", orders.inversions, [(1, 2, 0)]),
        ("orders turned_back", orders.turned_back, [(1, 2, 0)]),
        ("sorting_steps", orders.sorting_steps, [(1, 2, 0)]),
        ("stepped", orders.stepped, [(1, 2, 0), 2]),
        ("stepped no level", orders.stepped, [(1, 2, 0), [1]]),
        ("table_from", differences.table_from, [(1, 2, 0)]),
        ("order_from", differences.order_from, [((0, 0, 0), (0, 0, 1), (0, 1, 2))]),
        ("order_from list", differences.order_from, [[(0, 0), [0, 1]]]),
    ]


def calls_of_differences_and_frames():
    ground = Ground(3, 3)
    one, other = two_nests()
    rows_of_frame = frames.frame_of(one, other)
    paper = (differences.order_of(one, other), rows_of_frame)
    unlike = [one, nests.standard(Ground(2, 3))]
    return [
        ("table_of", differences.table_of, [one, other]),
        ("table_of unlike", differences.table_of, list(unlike)),
        ("order_of", differences.order_of, [one, other]),
        ("order_of unlike", differences.order_of, list(unlike)),
        ("frame_of", frames.frame_of, [one, other]),
        ("frame_of unlike", frames.frame_of, list(unlike)),
        ("is_frame", frames.is_frame, [one, other, rows_of_frame]),
        ("is_frame list", frames.is_frame, [one, other, list(rows_of_frame)]),
        ("is_frame unlike", frames.is_frame, unlike + [rows_of_frame]),
        ("judge_frame", frames.judge_frame, [one, other, paper]),
        ("judge_frame list", frames.judge_frame, [one, other, [list(part) for part in paper]]),
        ("judge_frame unlike", frames.judge_frame, unlike + [paper]),
        ("count_frames", frames.count_frames, [one, other]),
        ("count_frames unlike", frames.count_frames, list(unlike)),
        ("nests_of", frames.nests_of, [ground, ground.units(), (2, 0, 1)]),
        ("nests_of list", frames.nests_of, [ground, list(ground.units()), [2, [0], 1]]),
    ]


def calls_of_ways_and_between():
    one, other = two_nests()
    unlike = [one, nests.standard(Ground(2, 3))]
    script = ways.any_way(one, other)
    return [
        ("near_code", ways.near_code, [one, other, 1]),
        ("near_code no level", ways.near_code, [one, other, [1]]),
        ("near_code unlike", ways.near_code, unlike + [1]),
        ("deeds_apart", ways.deeds_apart, [one, other]),
        ("deeds_apart unlike", ways.deeds_apart, list(unlike)),
        ("way", ways.way, [one, other, scripts.levels_of(script)]),
        ("way bad", ways.way, [one, other, scripts.levels_of(script) + [1]]),
        ("way bad member", ways.way, [one, other, [[1], {}]]),
        ("way unlike", ways.way, unlike + [[1]]),
        ("any_way", ways.any_way, [one, other]),
        ("any_way unlike", ways.any_way, list(unlike)),
        ("judge_way", ways.judge_way, [one, other, list(script)]),
        ("judge_way end", ways.judge_way, [one, other, script[:-1]]),
        ("judge_way deeds", ways.judge_way, [one, one, script + scripts.turned_back(one, script)]),
        ("judge_way bad member", ways.judge_way, [one, other, script + [[FIRST]]]),
        ("judge_way form", ways.judge_way, [one, other, {"a": list(script)}]),
        ("judge_way unlike", ways.judge_way, unlike + [list(script)]),
        ("change", ways.change, [one, other, FIRST]),
        ("change list", ways.change, [one, other, list(FIRST)]),
        ("change unlike", ways.change, unlike + [FIRST]),
        ("begins", ways.begins, [one, other, FIRST]),
        ("begins list", ways.begins, [one, other, list(FIRST)]),
        ("begins unlike", ways.begins, unlike + [FIRST]),
        ("first_deeds", ways.first_deeds, [one, other]),
        ("first_deeds unlike", ways.first_deeds, list(unlike)),
        ("kept_levels", ways.kept_levels, [one, deeds.done(one, FIRST)]),
        ("kept_levels unlike", ways.kept_levels, list(unlike)),
        ("nearest", ways.nearest, [one, [other, one, one]]),
        ("nearest unlike", ways.nearest, [one, list(unlike)]),
        ("is_between", between.is_between, [one, one, other]),
        ("is_between unlike", between.is_between, [one] + unlike),
        ("all_between", between.all_between, [one, other]),
        ("all_between unlike", between.all_between, list(unlike)),
        ("count_between", between.count_between, [one, other]),
        ("count_between unlike", between.count_between, list(unlike)),
        ("nest_between", between.nest_between, [one, other, (0, 1, 2)]),
        ("nest_between list", between.nest_between, [one, other, [0, [1], 2]]),
        ("nest_between unlike", between.nest_between, unlike + [(0, 1, 2)]),
    ]


def calls_of_levelrows_below_and_prices():
    return [
        ("judge_levels", levelrows.judge_levels, [(2, 1, 0), [2, 1, 2]]),
        ("judge_levels wrong", levelrows.judge_levels, [(2, 1, 0), [2, 1]]),
        ("judge_levels bad member", levelrows.judge_levels, [(2, 1, 0), [2, [1], {}]]),
        ("judge_levels form", levelrows.judge_levels, [(2, 1, 0), {"a": [2]}]),
        ("first_row", levelrows.first_row, [(2, 1, 0)]),
        ("count_rows", levelrows.count_rows, [(2, 1, 0)]),
        ("levelrows row_at", levelrows.row_at, [(2, 1, 0), 1]),
        ("levelrows row_at beyond", levelrows.row_at, [(2, 1, 0), 2]),
        ("levelrows row_number", levelrows.row_number, [(2, 1, 0), [2, 1, 2]]),
        ("levelrows row_number bad", levelrows.row_number, [(2, 1, 0), [2, 1, 1]]),
        ("levelrows row_number bad member", levelrows.row_number, [(2, 1, 0), [2, 1, [2]]]),
        ("is_plain", levelrows.is_plain, [(2, 1, 0)]),
        ("falling_places", levelrows.falling_places, [(2, 1, 0)]),
        ("falling_places none", levelrows.falling_places, [(2, 0, 1)]),
        ("rising", below.rising, [3]),
        ("falling", below.falling, [3]),
        ("turned_pairs", below.turned_pairs, [(1, 2, 0)]),
        ("is_below", below.is_below, [(0, 2, 1), (2, 0, 1)]),
        ("orders_below", below.orders_below, [(1, 2, 0)]),
        ("count_below", below.count_below, [(1, 2, 0)]),
        ("price_of", prices.price_of, [[1, 2, 2], [3, 5]]),
        ("least_price", prices.least_price, [(2, 1, 0), [3, 5]]),
        ("greatest_price", prices.greatest_price, [(2, 1, 0), [3, 5]]),
        ("cheapest", prices.cheapest, [(2, 1, 0), [5, 3]]),
    ]


def calls_of_counting():
    ground = Ground(3, 3)
    return [
        ("step_count", counting.step_count, [ground, 4]),
        ("step_product", counting.step_product, [ground, 4]),
        ("count_nests", counting.count_nests, [ground]),
        ("orders_with", counting.orders_with, [4, 3]),
        ("orders_with none", counting.orders_with, [4, 7]),
        ("count_at", counting.count_at, [ground, (1, 2, 0)]),
        ("count_at list", counting.count_at, [ground, [1, 2, 0]]),
        ("count_at entry", counting.count_at, [ground, (1, [2], 0)]),
        ("count_away", counting.count_away, [ground, 2]),
        ("count_away none", counting.count_away, [ground, 4]),
        ("count_over", counting.count_over, [Part(ground, [HIGH])]),
        ("mean_away", counting.mean_away, [ground]),
    ]


def calls():
    made = [calls_of_words_and_grounds, calls_of_rows, calls_of_squares, calls_of_codes, calls_of_meets,
            calls_of_codecounts, calls_of_nests_and_parts, calls_of_deeds_and_scripts, calls_of_texts,
            calls_of_orders, calls_of_differences_and_frames, calls_of_ways_and_between,
            calls_of_levelrows_below_and_prices, calls_of_counting, calls_of_maps.calls_of_numbering,
            calls_of_maps.calls_of_maps, calls_of_maps.calls_of_leading, calls_of_maps.calls_of_gates_and_tables,
            calls_of_maps.calls_of_sharing, calls_of_houses.calls_of_opposites_and_sides,
            calls_of_houses.calls_of_goals_and_acts, calls_of_houses.calls_of_houses,
            calls_of_houses.calls_of_consoles]
    return [call for part in made for call in part()]
