"""Frames: bases that two nests have in common."""

from codenests.codes import is_in
from codenests.differences import order_of, paper_of
from codenests.nests import Nest, shared_ground
from codenests.orders import inversions, is_order, turned_back
from codenests.powers import power
from codenests.rows import row_fault
from codenests.squares import rank, reduced


def are_rows(ground, value):
    """Whether value, which may be anything, is a tuple of n rows."""
    if not isinstance(value, tuple) or len(value) != ground.n():
        return False
    return all([row_fault(ground, row) is None for row in value])


def is_framed(f, g, order, rows):
    """Whether the rows are a frame of two nests, with this order."""
    ground = f.ground()
    for i, row in enumerate(rows):
        if is_in(ground, f.code(i), row) or not is_in(ground, f.code(i + 1), row):
            return False
        if not is_in(ground, g.code(order[i] + 1), row):
            return False
    return True


def frame_of(f, g):
    """Some frame of two nests."""
    _, rows = paper_of(f, g)
    return rows


def is_frame(f, g, value):
    """Whether value, which may be anything, is a frame of two nests."""
    order = order_of(f, g)
    return are_rows(f.ground(), value) and is_framed(f, g, order, value)


def judge_frame(f, g, value):
    """Whether value, which may be anything, is a paper of two nests."""
    ground = shared_ground([f, g])
    if not isinstance(value, tuple) or len(value) != 2:
        return False
    order, rows = value
    return is_order(ground.n(), order) and are_rows(ground, rows) and is_framed(f, g, order, rows)


def count_frames(f, g):
    """How many frames two nests have."""
    ground = f.ground()
    n = ground.n()
    pairs = n * (n - 1) // 2 - inversions(order_of(f, g))
    return power(ground.p() - 1, n) * power(ground.p(), pairs)


def codes_along(ground, rows):
    """The codes of a nest: those that the first rows of a base span."""
    return [reduced(ground, rows[:i]) for i in range(1, ground.n())]


def nests_of(ground, rows, order):
    """The two nests that have the rows as a frame, and this order; or None."""
    n = ground.n()
    if not are_rows(ground, rows) or rank(ground, rows) < n or not is_order(n, order):
        return None
    turned = [rows[place] for place in turned_back(order)]
    return Nest(ground, codes_along(ground, rows)), Nest(ground, codes_along(ground, turned))
