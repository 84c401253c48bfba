"""Orders: tuples that have each of the numbers 0 to n - 1 once."""

from itertools import combinations

from codenests.errors import BadOrder, NoLevel
from codenests.words import is_number


def order_fault(n, value):
    """The path of the first wrong part of value as an order, None if it is one."""
    if not isinstance(value, tuple) or len(value) != n:
        return ()
    for k, member in enumerate(value):
        if not is_number(member) or member >= n or member in value[:k]:
            return (k,)
    return None


def is_order(n, value):
    """Whether value, which may be anything, is an order of n."""
    return order_fault(n, value) is None


def check_order(n, value):
    """Raise BadOrder unless value, which may be anything, is an order of n."""
    path = order_fault(n, value)
    if path is not None:
        raise BadOrder(path)


def falling_pairs(order):
    """The list of the pairs of positions that have the greater number first."""
    return [(a, b) for a, b in combinations(range(len(order)), 2) if order[a] > order[b]]


def inversions(order):
    """How many inversions an order has."""
    return len(falling_pairs(order))


def turned_back(order):
    """The order that has each position at the place of its number."""
    places = [0] * len(order)
    for place, number in enumerate(order):
        places[number] = place
    return tuple(places)


def sorting_steps(order):
    """The ascending list of the places at which a lesser number follows."""
    return [i for i in range(1, len(order)) if order[i - 1] > order[i]]


def stepped(order, level):
    """The order with the members ahead of and at a level exchanged."""
    if not is_number(level) or not 1 <= level < len(order):
        raise NoLevel(level)
    return order[:level - 1] + (order[level], order[level - 1]) + order[level + 1:]
