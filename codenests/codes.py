"""Codes of a ground: sets of rows, told by their reduced bases."""

from codenests.errors import BadCode
from codenests.grounds import Ground
from codenests.rows import all_rows, combined, pivot, row_fault, subtracted
from codenests.squares import reduced


def continues_base(earlier, row):
    """Whether a row may follow the earlier rows of a reduced base."""
    column = pivot(row)
    if column is None or row[column] != 1:
        return False
    if len(earlier) > 0 and column <= pivot(earlier[-1]):
        return False
    return all([other[column] == 0 for other in earlier])


def code_fault(ground, value):
    """The path of the first wrong part of value as a code, None if it is one."""
    if not isinstance(value, tuple) or len(value) > ground.n():
        return ()
    for k, row in enumerate(value):
        path = row_fault(ground, row)
        if path is not None:
            return (k,) + path
    for k, row in enumerate(value):
        if not continues_base(value[:k], row):
            return (k,)
    return None


def check_code(ground, value):
    """Raise BadCode unless value, which may be anything, is a code."""
    path = code_fault(ground, value)
    if path is not None:
        raise BadCode(path)


def code_of(ground, rows):
    """The code of all combinations of the rows."""
    return reduced(ground, rows)


def pivots(code):
    """The tuple of the pivots of a code."""
    return tuple([pivot(row) for row in code])


def rest(ground, code, row):
    """What is left of a row, with zeros at the pivots of the code."""
    entries = [row[column] for column in pivots(code)]
    return subtracted(ground, row, combined(ground, entries, code))


def is_in(ground, code, row):
    """Whether a row is in a code."""
    return rest(ground, code, row) == ground.zero()


def is_within(ground, one, other):
    """Whether all rows of the code one are in the code other."""
    return row_outside(ground, one, other) is None


def rows_of(ground, code):
    """The ascending list of the rows in a code."""
    # Two rows of a code first differ at one of its pivots, so they ascend as
    # their entries at the pivots do.
    choices = all_rows(Ground(ground.p(), len(code)))
    return [combined(ground, entries, code) for entries in choices]


def row_outside(ground, code, other):
    """Some row of code that is not in other; None if code is within other."""
    for row in code:
        if not is_in(ground, other, row):
            return row
    return None
