"""Turned codes and nests, and what a nest becomes within a code and beyond it."""

from codenests.codes import is_in, pivots, rest
from codenests.errors import BadRow
from codenests.grounds import Ground
from codenests.meets import common
from codenests.nests import Nest, nest_through
from codenests.squares import reduced


def turned_code(ground, code):
    """The code of the rows whose product with each row of a code is 0."""
    columns = pivots(code)
    rows = []
    for free, unit in enumerate(ground.units()):
        if free not in columns:
            row = list(unit)
            for column, base_row in zip(columns, code):
                row[column] = -base_row[free] % ground.p()
            rows.append(tuple(row))
    return reduced(ground, rows)


def turned(nest):
    """The nest of the turned codes of a nest."""
    ground = nest.ground()
    n = ground.n()
    return Nest(ground, [turned_code(ground, nest.code(n - i)) for i in range(1, n)])


def turned_order(order):
    """The order of two turned nests of which the nests have this order."""
    last = len(order) - 1
    return tuple([last - number for number in order[::-1]])


def entries_at(code, row):
    """The entries of a row in the pivot columns of a code."""
    return tuple([row[column] for column in pivots(code)])


def coordinates(ground, code, row):
    """The coordinates of a row of a code."""
    if not is_in(ground, code, row):
        raise BadRow(())
    return entries_at(code, row)


def short_rest(ground, code, row):
    """The rest of a row without the pivot columns of a code."""
    columns = pivots(code)
    return tuple([entry for column, entry in enumerate(rest(ground, code, row)) if column not in columns])


def within(nest, code):
    """What a nest becomes within a code."""
    ground = nest.ground()
    inner = Ground(ground.p(), len(code))
    shared = [common(ground, code, nest.code(i)) for i in range(ground.n() + 1)]
    return nest_through(inner, [reduced(inner, [entries_at(code, row) for row in one]) for one in shared])


def beyond(nest, code):
    """What a nest becomes beyond a code."""
    ground = nest.ground()
    outer = Ground(ground.p(), ground.n() - len(code))
    codes = [nest.code(i) for i in range(ground.n() + 1)]
    return nest_through(outer, [reduced(outer, [short_rest(ground, code, row) for row in one]) for one in codes])
