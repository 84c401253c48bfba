"""One call, at least, of each function: made anew by each call of `calls`.

A call is a name, the function and its arguments.
"""

from codenests import codes, grounds, rows, squares, words
from codenests.grounds import Ground

LIST = [(1, 2, 0), (2, 1, 1), (0, 0, 0), (1, 2, 0), (0, 1, 1)]
LOW = ((1, 0, 2),)
HIGH = ((1, 0, 2), (0, 1, 1))
SQUARE = ((1, 2, 0), (0, 1, 1), (2, 0, 2))


def anything():
    return {"a": [1, (2, [3])], "b": ({}, [])}


def calls_of_words_and_grounds():
    return [
        ("is_word", words.is_word, [anything()]),
        ("is_word", words.is_word, ["abc"]),
        ("is_number", words.is_number, [[1, [2]]]),
        ("is_prime", grounds.is_prime, [[2, [3]]]),
        ("is_prime", grounds.is_prime, [7]),
        ("Ground", Ground, [3, 2]),
        ("Ground bad p", Ground, [[3], [2]]),
        ("Ground bad n", Ground, [3, {"n": [2]}]),
        ("p", Ground(3, 2).p, []),
        ("n", Ground(3, 2).n, []),
        ("zero", Ground(3, 2).zero, []),
        ("units", Ground(3, 2).units, []),
        ("inverse_of", Ground(7, 2).inverse_of, [3]),
        ("inverse_of 0", Ground(7, 2).inverse_of, [0]),
    ]


def calls_of_rows():
    ground = Ground(3, 3)
    return [
        ("check_row", rows.check_row, [ground, (1, 2, 0)]),
        ("check_row list", rows.check_row, [ground, [1, 2, 0]]),
        ("check_row entry", rows.check_row, [ground, (1, [2], 0)]),
        ("added", rows.added, [ground, (1, 2, 0), (2, 2, 1)]),
        ("subtracted", rows.subtracted, [ground, (1, 2, 0), (2, 2, 1)]),
        ("scaled", rows.scaled, [ground, 2, (2, 2, 1)]),
        ("dot", rows.dot, [ground, (1, 2, 0), (2, 2, 1)]),
        ("combined", rows.combined, [ground, [1, 2, 0, 2, 1], list(LIST)]),
        ("pivot", rows.pivot, [(0, 2, 1)]),
        ("row_at", rows.row_at, [ground, 5]),
        ("row_at beyond", rows.row_at, [ground, 27]),
        ("row_number", rows.row_number, [ground, (1, 2, 0)]),
        ("all_rows", rows.all_rows, [Ground(2, 2)]),
    ]


def calls_of_squares():
    ground = Ground(3, 3)
    return [
        ("reduced", squares.reduced, [ground, list(LIST)]),
        ("rank", squares.rank, [ground, list(LIST)]),
        ("relation", squares.relation, [ground, list(LIST)]),
        ("relation none", squares.relation, [ground, list(HIGH)]),
        ("judge_relation", squares.judge_relation, [ground, list(LIST), (1, 0, 0, 2, 0)]),
        ("judge_relation list", squares.judge_relation, [ground, list(LIST), [1, 0, 0, [2], 0]]),
        ("solve", squares.solve, [ground, list(LIST), (1, 1, 1)]),
        ("solve none", squares.solve, [ground, list(LOW), (1, 1, 1)]),
        ("product", squares.product, [ground, SQUARE, SQUARE]),
        ("inverse", squares.inverse, [ground, ((1, 2, 0), (0, 1, 1), (2, 0, 1))]),
        ("inverse none", squares.inverse, [ground, (LOW + HIGH)]),
        ("determinant", squares.determinant, [ground, SQUARE]),
    ]


def calls_of_codes():
    ground = Ground(3, 3)
    return [
        ("check_code", codes.check_code, [ground, HIGH]),
        ("check_code list", codes.check_code, [ground, list(HIGH)]),
        ("check_code row", codes.check_code, [ground, ((1, 0, 0), [0, 1, 0])]),
        ("code_of", codes.code_of, [ground, list(LIST)]),
        ("pivots", codes.pivots, [HIGH]),
        ("rest", codes.rest, [ground, HIGH, (1, 1, 1)]),
        ("is_in", codes.is_in, [ground, HIGH, (1, 1, 0)]),
        ("is_within", codes.is_within, [ground, LOW, HIGH]),
        ("rows_of", codes.rows_of, [ground, HIGH]),
        ("row_outside", codes.row_outside, [ground, HIGH, LOW]),
        ("row_outside none", codes.row_outside, [ground, LOW, HIGH]),
    ]


def calls():
    return calls_of_words_and_grounds() + calls_of_rows() + calls_of_squares() + calls_of_codes()
