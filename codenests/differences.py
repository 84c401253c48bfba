"""What two nests differ by: their order, also told by a table of ranks."""

from codenests.codes import row_outside
from codenests.nests import shared_ground
from codenests.orders import is_order
from codenests.rows import combined, pivot, scaled
from codenests.squares import cleared, inverse
from codenests.words import is_number


def base_of(nest):
    """A base of which, for each i, the first i rows span the code of rank i."""
    ground = nest.ground()
    return tuple([row_outside(ground, nest.code(i + 1), nest.code(i)) for i in range(ground.n())])


def paper_of(f, g):
    """The order of two nests and a frame of them."""
    ground = shared_ground([f, g])
    n = ground.n()
    # A row is in a code of g if its coordinates are 0 from there on. With the
    # base of g turned round, this shows in the pivot of the coordinates.
    back = inverse(ground, base_of(g)[::-1])
    taken = {}
    order = []
    rows = []
    for row in base_of(f):
        # Less rows of the code of f so far, the row gets into a code of g as
        # low as can be: when its pivot is not that of a row of this code.
        left = combined(ground, row, back) + row
        while pivot(left) in taken:
            left = cleared(ground, left, taken[pivot(left)], pivot(left))
        column = pivot(left)
        taken[column] = scaled(ground, ground.inverse_of(left[column]), left)
        order.append(n - 1 - column)
        rows.append(left[n:])
    return tuple(order), tuple(rows)


def order_of(f, g):
    """The order of two nests."""
    order, _ = paper_of(f, g)
    return order


def table_of(f, g):
    """The table of two nests: the ranks of what their codes have in common."""
    return table_from(order_of(f, g))


def table_from(order):
    """The table of two nests that have this order."""
    numbers = range(len(order) + 1)
    return tuple([tuple([len([x for x in order[:i] if x < j]) for j in numbers]) for i in numbers])


def is_table(value):
    """Whether value, which may be anything, has as many rows of numbers as columns."""
    if not isinstance(value, tuple):
        return False
    for row in value:
        if not isinstance(row, tuple) or len(row) != len(value):
            return False
        if not all([is_number(number) for number in row]):
            return False
    return True


def first_growth(low, high):
    """The first number j by which the row high has grown more than the row low."""
    for j in range(len(low) - 1):
        if high[j + 1] > low[j + 1]:
            return j
    return None


def order_from(value):
    """The order whose table is value, which may be anything; or None."""
    if not is_table(value):
        return None
    order = tuple([first_growth(low, high) for low, high in zip(value, value[1:])])
    if not is_order(len(order), order) or table_from(order) != value:
        return None
    return order
