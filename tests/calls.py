"""One call, at least, of each function: made anew by each call of `calls`.

A call is a name, the function and its arguments.
"""

from codenests import codecounts, codes, deeds, grounds, meets, nests, parts, rows, scripts, squares, words
from codenests.grounds import Ground
from codenests.nests import Nest
from codenests.parts import Part

LIST = [(1, 2, 0), (2, 1, 1), (0, 0, 0), (1, 2, 0), (0, 1, 1)]
LOW = ((1, 0, 2),)
HIGH = ((1, 0, 2), (0, 1, 1))
SQUARE = ((1, 2, 0), (0, 1, 1), (2, 0, 2))
OTHER = ((1, 0, 0), (0, 0, 1))
FIRST = (1, ((0, 1, 1),))


def anything():
    return {"a": [1, (2, [3])], "b": ({}, [])}


def calls_of_words_and_grounds():
    return [
        ("is_word", words.is_word, [anything()]),
        ("is_word", words.is_word, ["abc"]),
        ("is_number", words.is_number, [[1, [2]]]),
        ("is_prime", grounds.is_prime, [[2, [3]]]),
        ("is_prime", grounds.is_prime, [7]),
        ("Ground", Ground, [3, 2]),
        ("Ground bad p", Ground, [[3], [2]]),
        ("Ground bad n", Ground, [3, {"n": [2]}]),
        ("p", Ground(3, 2).p, []),
        ("n", Ground(3, 2).n, []),
        ("zero", Ground(3, 2).zero, []),
        ("units", Ground(3, 2).units, []),
        ("inverse_of", Ground(7, 2).inverse_of, [3]),
        ("inverse_of 0", Ground(7, 2).inverse_of, [0]),
    ]


def calls_of_rows():
    ground = Ground(3, 3)
    return [
        ("check_row", rows.check_row, [ground, (1, 2, 0)]),
        ("check_row list", rows.check_row, [ground, [1, 2, 0]]),
        ("check_row entry", rows.check_row, [ground, (1, [2], 0)]),
        ("added", rows.added, [ground, (1, 2, 0), (2, 2, 1)]),
        ("subtracted", rows.subtracted, [ground, (1, 2, 0), (2, 2, 1)]),
        ("scaled", rows.scaled, [ground, 2, (2, 2, 1)]),
        ("dot", rows.dot, [ground, (1, 2, 0), (2, 2, 1)]),
        ("combined", rows.combined, [ground, [1, 2, 0, 2, 1], list(LIST)]),
        ("pivot", rows.pivot, [(0, 2, 1)]),
        ("row_at", rows.row_at, [ground, 5]),
        ("row_at beyond", rows.row_at, [ground, 27]),
        ("row_number", rows.row_number, [ground, (1, 2, 0)]),
        ("all_rows", rows.all_rows, [Ground(2, 2)]),
    ]


def calls_of_squares():
    ground = Ground(3, 3)
    return [
        ("reduced", squares.reduced, [ground, list(LIST)]),
        ("rank", squares.rank, [ground, list(LIST)]),
        ("relation", squares.relation, [ground, list(LIST)]),
        ("relation none", squares.relation, [ground, list(HIGH)]),
        ("judge_relation", squares.judge_relation, [ground, list(LIST), (1, 0, 0, 2, 0)]),
        ("judge_relation list", squares.judge_relation, [ground, list(LIST), [1, 0, 0, [2], 0]]),
        ("solve", squares.solve, [ground, list(LIST), (1, 1, 1)]),
        ("solve none", squares.solve, [ground, list(LOW), (1, 1, 1)]),
        ("product", squares.product, [ground, SQUARE, SQUARE]),
        ("inverse", squares.inverse, [ground, ((1, 2, 0), (0, 1, 1), (2, 0, 1))]),
        ("inverse none", squares.inverse, [ground, (LOW + HIGH)]),
        ("determinant", squares.determinant, [ground, SQUARE]),
    ]


def calls_of_codes():
    ground = Ground(3, 3)
    return [
        ("check_code", codes.check_code, [ground, HIGH]),
        ("check_code list", codes.check_code, [ground, list(HIGH)]),
        ("check_code row", codes.check_code, [ground, ((1, 0, 0), [0, 1, 0])]),
        ("code_of", codes.code_of, [ground, list(LIST)]),
        ("pivots", codes.pivots, [HIGH]),
        ("rest", codes.rest, [ground, HIGH, (1, 1, 1)]),
        ("is_in", codes.is_in, [ground, HIGH, (1, 1, 0)]),
        ("is_within", codes.is_within, [ground, LOW, HIGH]),
        ("rows_of", codes.rows_of, [ground, HIGH]),
        ("row_outside", codes.row_outside, [ground, HIGH, LOW]),
        ("row_outside none", codes.row_outside, [ground, LOW, HIGH]),
    ]


def calls_of_meets():
    ground = Ground(3, 3)
    return [
        ("common", meets.common, [ground, HIGH, OTHER]),
        ("joined", meets.joined, [ground, LOW, OTHER]),
        ("complement", meets.complement, [ground, HIGH]),
        ("between_codes", meets.between_codes, [ground, LOW, ground.units()]),
        ("all_codes_between", meets.all_codes_between, [ground, LOW, ground.units()]),
    ]


def calls_of_codecounts():
    ground = Ground(3, 3)
    return [
        ("count_codes", codecounts.count_codes, [ground, 2]),
        ("count_between", codecounts.count_between, [ground, LOW, ground.units(), 2]),
        ("code_at", codecounts.code_at, [ground, 2, 7]),
        ("code_at beyond", codecounts.code_at, [ground, 2, 13]),
        ("code_number", codecounts.code_number, [ground, HIGH]),
        ("all_codes", codecounts.all_codes, [ground, 2]),
        ("next_code", codecounts.next_code, [ground, HIGH]),
        ("next_code none", codecounts.next_code, [ground, ((0, 1, 0), (0, 0, 1))]),
    ]


def calls_of_nests_and_parts():
    ground = Ground(3, 3)
    nest = Nest(ground, [LOW, HIGH])
    part = Part(ground, [HIGH])
    return [
        ("Nest", Nest, [ground, [LOW, HIGH]]),
        ("Nest bad code", Nest, [ground, [LOW, [1, (2,)]]]),
        ("Nest bad rank", Nest, [ground, [HIGH, LOW]]),
        ("nest ground", nest.ground, []),
        ("nest codes", nest.codes, []),
        ("nest code", nest.code, [2]),
        ("nest no code", nest.code, [[2]]),
        ("standard", nests.standard, [ground]),
        ("Part", Part, [ground, [LOW, HIGH]]),
        ("Part bad code", Part, [ground, [LOW, [1, (2,)]]]),
        ("Part bad rank", Part, [ground, [HIGH, LOW]]),
        ("part ground", part.ground, []),
        ("part codes", part.codes, []),
        ("part ranks", part.ranks, []),
        ("part blocks", part.blocks, []),
        ("part_of", parts.part_of, [nest, [1, 2]]),
        ("is_over", parts.is_over, [nest, part]),
        ("is_over unlike", parts.is_over, [nest, Part(Ground(2, 3), [])]),
    ]


def calls_of_deeds_and_scripts():
    nest = Nest(Ground(3, 3), [LOW, HIGH])
    script = [FIRST, (2, ((1, 0, 0), (0, 1, 1))), (1, ((1, 0, 0),))]
    return [
        ("is_deed", deeds.is_deed, [nest, FIRST]),
        ("is_deed list", deeds.is_deed, [nest, [1, [[0, 1, 1]]]]),
        ("done", deeds.done, [nest, FIRST]),
        ("done list", deeds.done, [nest, list(FIRST)]),
        ("taken_back", deeds.taken_back, [nest, FIRST]),
        ("taken_back list", deeds.taken_back, [nest, list(FIRST)]),
        ("deeds_at", deeds.deeds_at, [nest, 1]),
        ("deeds_at no level", deeds.deeds_at, [nest, 3]),
        ("all_deeds", deeds.all_deeds, [nest]),
        ("walked", scripts.walked, [nest, list(script)]),
        ("walked bad", scripts.walked, [nest, script + [FIRST, FIRST]]),
        ("steps", scripts.steps, [nest, list(script)]),
        ("steps bad", scripts.steps, [nest, script + [FIRST, FIRST]]),
        ("turned_back", scripts.turned_back, [nest, list(script)]),
        ("turned_back bad", scripts.turned_back, [nest, script + [FIRST, FIRST]]),
        ("first_bad", scripts.first_bad, [nest, list(script)]),
        ("first_bad member", scripts.first_bad, [nest, script + [[FIRST]]]),
        ("levels_of", scripts.levels_of, [list(script)]),
    ]


def calls():
    made = [calls_of_words_and_grounds, calls_of_rows, calls_of_squares, calls_of_codes, calls_of_meets,
            calls_of_codecounts, calls_of_nests_and_parts, calls_of_deeds_and_scripts]
    return [call for part in made for call in part()]
