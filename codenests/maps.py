"""Maps: bases of the whole ground to which the unit rows are led."""

from codenests.codes import code_of, is_in
from codenests.errors import BadMap, TooGreat
from codenests.powers import power
from codenests.rows import all_rows, combined, row_fault
from codenests.squares import inverse, product, rank, reduced

MOST_MAPS = 2000


def map_fault(ground, value):
    """The path of the first wrong part of value as a map, None if it is one."""
    if not isinstance(value, tuple) or len(value) != ground.n():
        return ()
    for k, row in enumerate(value):
        path = row_fault(ground, row)
        if path is not None:
            return (k,) + path
    return None if rank(ground, value) == ground.n() else ()


def is_map(ground, value):
    """Whether value, which may be anything, is a map."""
    return map_fault(ground, value) is None


def check_map(ground, value):
    """Raise BadMap unless value, which may be anything, is a map."""
    path = map_fault(ground, value)
    if path is not None:
        raise BadMap(path)


def unit_map(ground):
    """The map that leads each row to itself."""
    return ground.units()


def led_row(ground, value, row):
    """The row to which a map, which may be anything, leads a row."""
    check_map(ground, value)
    return combined(ground, row, value)


def led_code(ground, value, code):
    """The code to which a map, which may be anything, leads a code."""
    check_map(ground, value)
    return reduced(ground, product(ground, code, value))


def then(ground, one, other):
    """The map that leads as the map one does, and on as the map other does."""
    check_map(ground, one)
    check_map(ground, other)
    return product(ground, one, other)


def turned_back(ground, value):
    """The map that leads each row back from where a map leads it."""
    check_map(ground, value)
    return inverse(ground, value)


def map_along(ground, rows, others):
    """The map that leads each row of a base to the row of another one at its place."""
    return product(ground, inverse(ground, rows), others)


def count_maps(ground):
    """How many maps there are."""
    whole = power(ground.p(), ground.n())
    worth = 1
    for i in range(ground.n()):
        worth = worth * (whole - power(ground.p(), i))
    return worth


def with_next_row(ground, begun):
    """The independent rows that have begun, with each further one that is so, too."""
    code = code_of(ground, begun)
    return [begun + (row,) for row in all_rows(ground) if not is_in(ground, code, row)]


def all_maps(ground):
    """The ascending list of all maps."""
    if count_maps(ground) > MOST_MAPS:
        raise TooGreat()
    maps = [()]
    for _ in range(ground.n()):
        maps = [longer for begun in maps for longer in with_next_row(ground, begun)]
    return maps
