"""How many nests there are, and how many stand to a given one in a certain way."""

from math import gcd

from codenests.orders import check_order, falling_pairs
from codenests.powers import power


def step_count(ground, m):
    """How many codes are one step above a code, within one of m steps above it."""
    return sum([power(ground.p(), k) for k in range(m)])


def step_product(ground, m):
    """The product of the step counts from 1 to m."""
    worth = 1
    for k in range(1, m + 1):
        worth = worth * step_count(ground, k)
    return worth


def count_nests(ground):
    """How many nests a ground has."""
    return step_product(ground, ground.n())


def inversion_counts(n):
    """The list of how many orders of n have 0, 1, 2, .. inversions."""
    counts = [1]
    for many in range(1, n + 1):
        # Put in at any place of an order, the greatest number has 0 to
        # many - 1 lesser ones behind it.
        counts = [sum(counts[max(0, k - many + 1):k + 1]) for k in range(len(counts) + many - 1)]
    return counts


def orders_with(n, inversions):
    """How many orders of n have so many inversions."""
    counts = inversion_counts(n)
    return counts[inversions] if inversions < len(counts) else 0


def count_at(ground, order):
    """How many nests have this order with a given one."""
    check_order(ground.n(), order)
    return power(ground.p(), len(falling_pairs(order)))


def count_away(ground, deeds):
    """How many nests are so many deeds away from a given one."""
    many = orders_with(ground.n(), deeds)
    # The power of a number of deeds that no nests have may be beyond reach.
    return many * power(ground.p(), deeds) if many > 0 else 0


def count_over(part):
    """How many nests contain the codes of a partial nest."""
    worth = 1
    for block in part.blocks():
        worth = worth * step_product(part.ground(), block)
    return worth


def lowest(above, below):
    """The fraction in lowest terms."""
    divisor = gcd(above, below)
    return above // divisor, below // divisor


def mean_away(ground):
    """The mean of the fewest deeds from a nest to all nests, as a fraction."""
    p = ground.p()
    above, below = 0, 1
    for i in range(1, ground.n() + 1):
        weighed = sum([r * power(p, r) for r in range(i)])
        many = step_count(ground, i)
        above, below = lowest(above * many + weighed * below, below * many)
    return above, below
