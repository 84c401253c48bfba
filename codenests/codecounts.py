"""How many codes there are, and the numbers of the codes of one rank."""

from itertools import combinations

from codenests.codes import is_within, pivots
from codenests.errors import TooGreat
from codenests.grounds import Ground
from codenests.powers import digits_at, digits_number, power
from codenests.rows import all_rows


def count_of_rank(p, n, rank):
    """How many codes of a rank there are among the rows of n numbers."""
    if rank > n:
        return 0
    above = 1
    below = 1
    for i in range(rank):
        above = above * (power(p, n - i) - 1)
        below = below * (power(p, i + 1) - 1)
    return above // below


def count_codes(ground, rank):
    """How many codes of a rank there are."""
    return count_of_rank(ground.p(), ground.n(), rank)


def count_between(ground, low, high, rank):
    """How many codes of a rank contain low and are within high."""
    if rank < len(low) or not is_within(ground, low, high):
        return 0
    return count_of_rank(ground.p(), len(high) - len(low), rank - len(low))


def row_choices(ground, column, later):
    """How many rows can be one of a base, by where its pivot is.

    The pivot is in the column, and later rows of the base follow the row.
    """
    return power(ground.p(), ground.n() - column - 1 - later)


def base_choices(ground, column, later):
    """How many rows, each with the later rows that follow it, can be in a base.

    The pivot of the row is in the column.
    """
    ends = count_of_rank(ground.p(), ground.n() - column - 1, later)
    return row_choices(ground, column, later) * ends


def pivots_at(ground, rank, number):
    """The pivots of the code of this rank and number, and a second number.

    This one is how many codes with the same pivots come before the code.
    """
    columns = []
    column = 0
    left = number
    # Codes go by all pivots first: so each choice of the free entries of the
    # rows so far comes once with each choice for what follows.
    choices = 1
    while len(columns) < rank:
        later = rank - len(columns) - 1
        many = choices * base_choices(ground, column, later)
        if left < many:
            columns.append(column)
            choices = choices * row_choices(ground, column, later)
        else:
            left = left - many
        column += 1
    return tuple(columns), left


def free_places(ground, columns):
    """The pairs of a row and a column that are free in codes with these pivots."""
    return [(k, column) for k, start in enumerate(columns)
            for column in range(start + 1, ground.n()) if column not in columns]


def code_with(ground, columns, entries):
    """The code with these pivots and these free entries."""
    units = ground.units()
    rows = [list(units[column]) for column in columns]
    for (k, column), entry in zip(free_places(ground, columns), entries):
        rows[k][column] = entry
    return tuple([tuple(row) for row in rows])


def code_at(ground, rank, number):
    """The code with this rank and number."""
    if number >= count_codes(ground, rank):
        raise TooGreat()
    columns, left = pivots_at(ground, rank, number)
    many = len(free_places(ground, columns))
    return code_with(ground, columns, digits_at(ground.p(), many, left))


def code_number(ground, code):
    """How many codes of the same rank come before a code."""
    columns = pivots(code)
    number = 0
    choices = 1
    start = 0
    for k, column in enumerate(columns):
        later = len(columns) - k - 1
        for earlier in range(start, column):
            number = number + choices * base_choices(ground, earlier, later)
        choices = choices * row_choices(ground, column, later)
        start = column + 1
    entries = [code[k][column] for k, column in free_places(ground, columns)]
    return number + digits_number(ground.p(), entries)


def all_codes(ground, rank):
    """The list of all codes of a rank, in order."""
    codes = []
    if rank > ground.n():
        return codes
    for columns in combinations(range(ground.n()), rank):
        many = len(free_places(ground, columns))
        for entries in all_rows(Ground(ground.p(), many)):
            codes.append(code_with(ground, columns, entries))
    return codes


def next_code(ground, code):
    """The code of the same rank that comes next, or None behind the last one."""
    number = code_number(ground, code) + 1
    if number == count_codes(ground, len(code)):
        return None
    return code_at(ground, len(code), number)
