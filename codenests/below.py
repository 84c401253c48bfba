"""Turned pairs of an order, and the orders that are below it."""

from itertools import combinations

from codenests.orders import sorting_steps, stepped, turned_back


def rising(n):
    """The order of n without a turned pair."""
    return tuple(range(n))


def falling(n):
    """The order of n in which all pairs are turned."""
    return tuple([n - 1 - k for k in range(n)])


def turned_pairs(order):
    """The ascending list of the pairs (x, y), x < y, of which y stands first."""
    places = turned_back(order)
    return [(x, y) for x, y in combinations(range(len(order)), 2) if places[y] < places[x]]


def is_below(one, other):
    """Whether each pair that is turned in one is turned in other, too."""
    places = turned_back(other)
    return all([places[y] < places[x] for x, y in turned_pairs(one)])


def layers_below(order):
    """The orders below an order, in lists: by how many sorting steps lead there."""
    layers = []
    layer = [order]
    while len(layer) > 0:
        layers.append(layer)
        layer = sorted({stepped(one, level) for one in layer for level in sorting_steps(one)})
    return layers


def orders_below(order):
    """The ascending list of the orders below an order."""
    return sorted([one for layer in layers_below(order) for one in layer])


def positions_ahead(order):
    """For each position the set of those that stay ahead of it, as a number.

    The number is the sum of 2 ** a for the positions a of the set.
    """
    return [sum([1 << a for a in range(b) if order[a] < order[b]]) for b in range(len(order))]


def gone_further(ahead, ways):
    """The ways to go through sets of positions, with one more position each.

    As the sets that ahead tells, a set that is a key of ways is a number.
    """
    longer = {}
    for gone, many in ways.items():
        for b, needed in enumerate(ahead):
            bit = 1 << b
            if (gone & bit) == 0 and (gone & needed) == needed:
                longer[gone + bit] = longer.get(gone + bit, 0) + many
    return longer


def count_below(order):
    """How many orders are below an order."""
    ahead = positions_ahead(order)
    ways = {0: 1}
    for _ in order:
        ways = gone_further(ahead, ways)
    # In the end there is one set alone, that of all positions.
    return sum(ways.values())
