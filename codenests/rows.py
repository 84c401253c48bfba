"""Rows of a ground: what is one, how they are added, and their numbers."""

from codenests.errors import BadRow, TooGreat
from codenests.powers import digits_at, digits_number, power
from codenests.words import is_number


def is_number_of(ground, value):
    """Whether value, which may be anything, is a number of the ground."""
    return is_number(value) and value < ground.p()


def row_fault(ground, value):
    """The path of the first wrong part of value as a row, None if it is one."""
    if not isinstance(value, tuple) or len(value) != ground.n():
        return ()
    for column, entry in enumerate(value):
        if not is_number_of(ground, entry):
            return (column,)
    return None


def check_row(ground, value):
    """Raise BadRow unless value, which may be anything, is a row."""
    path = row_fault(ground, value)
    if path is not None:
        raise BadRow(path)


def added(ground, one, other):
    """The sum of two rows."""
    p = ground.p()
    return tuple([(entry + more) % p for entry, more in zip(one, other)])


def subtracted(ground, one, other):
    """The row that gives one when other is added."""
    p = ground.p()
    return tuple([(entry - less) % p for entry, less in zip(one, other)])


def scaled(ground, number, row):
    """The multiple of a row by a number."""
    p = ground.p()
    return tuple([number * entry % p for entry in row])


def dot(ground, one, other):
    """The product of two rows."""
    return sum([entry * factor for entry, factor in zip(one, other)]) % ground.p()


def combined(ground, numbers, rows):
    """The sum of the multiples of the rows by the numbers."""
    total = ground.zero()
    for number, row in zip(numbers, rows):
        total = added(ground, total, scaled(ground, number, row))
    return total


def pivot(row):
    """The first column with an entry other than 0, None for the zero row."""
    for column, entry in enumerate(row):
        if entry != 0:
            return column
    return None


def row_at(ground, number):
    """The row with this number."""
    if number >= power(ground.p(), ground.n()):
        raise TooGreat()
    return digits_at(ground.p(), ground.n(), number)


def row_number(ground, row):
    """The number of a row: how many rows come before it."""
    return digits_number(ground.p(), row)


def all_rows(ground):
    """The ascending list of all rows."""
    many = power(ground.p(), ground.n())
    return [digits_at(ground.p(), ground.n(), number) for number in range(many)]
