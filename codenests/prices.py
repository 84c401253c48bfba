"""Prices of levels, and the cheapest and the dearest level rows of an order."""

from codenests.below import layers_below
from codenests.orders import sorting_steps, stepped


def price_of(levels, prices):
    """The sum of the prices of some levels."""
    return sum([prices[level - 1] for level in levels])


def least_prices(order, prices):
    """The least price of each order that is below an order, as a dict."""
    least = {}
    for layer in reversed(layers_below(order)):
        for one in layer:
            sums = [prices[level - 1] + least[stepped(one, level)] for level in sorting_steps(one)]
            least[one] = min(sums) if len(sums) > 0 else 0
    return least


def least_price(order, prices):
    """The price of the cheapest level rows of an order."""
    return least_prices(order, prices)[order]


def greatest_price(order, prices):
    """The price of the dearest level rows of an order."""
    # They are the cheapest ones when each price is turned into its negative.
    return -least_price(order, [-price for price in prices])


def cheap_steps(order, prices, least):
    """The sorting steps with which a cheapest level row of an order begins."""
    return [step for step in sorting_steps(order)
            if prices[step - 1] + least[stepped(order, step)] == least[order]]


def cheapest(order, prices):
    """That one of the cheapest level rows which comes first."""
    least = least_prices(order, prices)
    row = []
    left = order
    while len(sorting_steps(left)) > 0:
        row.append(cheap_steps(left, prices, least)[0])
        left = stepped(left, row[-1])
    return row
