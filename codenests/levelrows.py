"""Level rows: the levels by which sorting steps make an order rise."""

from itertools import combinations

from codenests.below import layers_below
from codenests.errors import BadLevels, TooGreat
from codenests.orders import sorting_steps, stepped
from codenests.words import is_number


def levels_fault(order, levels):
    """What BadLevels tells of a list of levels, None if it is a level row.

    The members may be anything.
    """
    left = order
    for k, level in enumerate(levels):
        # True is equal to 1, but it is no number and so no level.
        if not is_number(level) or level not in sorting_steps(left):
            return k
        left = stepped(left, level)
    return len(levels) if len(sorting_steps(left)) > 0 else None


def judge_levels(order, value):
    """None if value, which may be anything, is a level row, or what is wrong."""
    if not isinstance(value, (list, tuple)):
        return ("form",)
    number = levels_fault(order, value)
    return None if number is None else ("levels", number)


def first_row(order):
    """The level row with the number 0."""
    row = []
    left = order
    while len(sorting_steps(left)) > 0:
        row.append(sorting_steps(left)[0])
        left = stepped(left, row[-1])
    return row


def row_counts(order):
    """How many level rows each order has that is below an order, as a dict."""
    counts = {}
    for layer in reversed(layers_below(order)):
        for one in layer:
            steps = sorting_steps(one)
            counts[one] = sum([counts[stepped(one, level)] for level in steps]) if len(steps) > 0 else 1
    return counts


def count_rows(order):
    """How many level rows an order has."""
    return row_counts(order)[order]


def begun_before(order, level, counts):
    """How many level rows begin with a lesser level."""
    return sum([counts[stepped(order, lesser)] for lesser in sorting_steps(order) if lesser < level])


def row_at(order, number):
    """The level row with this number."""
    counts = row_counts(order)
    if number >= counts[order]:
        raise TooGreat()
    row = []
    left = order
    ahead = number
    while len(sorting_steps(left)) > 0:
        level = [step for step in sorting_steps(left) if begun_before(left, step, counts) <= ahead][-1]
        ahead = ahead - begun_before(left, level, counts)
        row.append(level)
        left = stepped(left, level)
    return row


def row_number(order, levels):
    """How many level rows come before this one."""
    fault = levels_fault(order, levels)
    if fault is not None:
        raise BadLevels(fault)
    counts = row_counts(order)
    number = 0
    left = order
    for level in levels:
        number = number + begun_before(left, level, counts)
        left = stepped(left, level)
    return number


def is_plain(order):
    """Whether no three members fall."""
    return falling_places(order) is None


def falling_places(order):
    """The least triple of positions with falling members, or None."""
    for a, b, c in combinations(range(len(order)), 3):
        if order[a] > order[b] > order[c]:
            return a, b, c
    return None
