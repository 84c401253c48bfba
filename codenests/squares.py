"""Lists of rows: reduced bases, ranks, relations, and squares."""

from codenests.grounds import Ground
from codenests.rows import combined, is_number_of, scaled, subtracted


def first_with_entry(rows, top, column):
    """The first place from top on of a row with an entry in column, or None."""
    for place in range(top, len(rows)):
        if rows[place][column] != 0:
            return place
    return None


def cleared(ground, row, other, column):
    """The row less that multiple of other which leaves 0 in column.

    The other row has the entry 1 there.
    """
    if row[column] == 0:
        return row
    return subtracted(ground, row, scaled(ground, row[column], other))


def eliminated(ground, rows, columns):
    """The rows made into a reduced base as far as the first columns go.

    The rows may be longer than those of the ground: what stands behind the
    columns takes part in each step. Returns the rows, first those with a
    pivot among the columns, then those with zeros there, and the list of
    these pivots.
    """
    left = list(rows)
    columns_taken = []
    for column in range(columns):
        top = len(columns_taken)
        place = first_with_entry(left, top, column)
        if place is None:
            continue
        left[top], left[place] = left[place], left[top]
        chosen = scaled(ground, ground.inverse_of(left[top][column]), left[top])
        left = [cleared(ground, row, chosen, column) for row in left]
        left[top] = chosen
        columns_taken.append(column)
    return left, columns_taken


def marked(ground, rows):
    """The rows, each with the unit row of its place put behind it.

    Behind the columns of the ground, elimination then tells by which numbers
    the rows were combined.
    """
    return [row + mark for row, mark in zip(rows, Ground(ground.p(), len(rows)).units())]


def reduced(ground, rows):
    """The reduced base with the same combinations as the rows."""
    left, columns_taken = eliminated(ground, rows, ground.n())
    return tuple(left[:len(columns_taken)])


def rank(ground, rows):
    """The greatest number of independent rows."""
    return len(reduced(ground, rows))


def relation(ground, rows):
    """Some numbers, not all 0, that combine the rows to zero; or None."""
    left, columns_taken = eliminated(ground, marked(ground, rows), ground.n())
    if len(columns_taken) == len(rows):
        return None
    return left[len(columns_taken)][ground.n():]


def judge_relation(ground, rows, value):
    """Whether value, which may be anything, is a relation of the rows."""
    if not isinstance(value, tuple) or len(value) != len(rows):
        return False
    if not all([is_number_of(ground, number) for number in value]):
        return False
    if all([number == 0 for number in value]):
        return False
    return combined(ground, value, rows) == ground.zero()


def solve(ground, rows, row):
    """Some numbers by which the combination of the rows is row; or None."""
    n = ground.n()
    left, columns_taken = eliminated(ground, marked(ground, rows), n)
    lacking = row + (0,) * len(rows)
    for chosen, column in zip(left, columns_taken):
        lacking = cleared(ground, lacking, chosen, column)
    if lacking[:n] != ground.zero():
        return None
    # What was subtracted is what the row is made of, so its sign turns.
    return scaled(ground, -1, lacking[n:])


def product(ground, one, other):
    """The product of two squares."""
    return tuple([combined(ground, row, other) for row in one])


def inverse(ground, square):
    """The square whose product with square is the unit square; or None."""
    n = ground.n()
    left, columns_taken = eliminated(ground, marked(ground, square), n)
    if len(columns_taken) < n:
        return None
    return tuple([row[n:] for row in left])


def determinant(ground, square):
    """The determinant of a square."""
    left = list(square)
    worth = 1
    for column in range(ground.n()):
        place = first_with_entry(left, 0, column)
        if place is None:
            return 0
        if place > 0:
            left[0], left[place] = left[place], left[0]
            worth = -worth
        worth = worth * left[0][column]
        chosen = scaled(ground, ground.inverse_of(left[0][column]), left[0])
        left = [cleared(ground, row, chosen, column) for row in left[1:]]
    return worth % ground.p()
