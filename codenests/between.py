"""What lies between two nests: the nests to which the fewest ways come."""

from codenests.below import count_below, is_below, orders_below
from codenests.differences import order_of, paper_of
from codenests.frames import codes_along
from codenests.nests import Nest
from codenests.orders import inversions, is_order, turned_back
from codenests.ways import deeds_apart


def is_between(f, h, g):
    """Whether h is between f and g."""
    return deeds_apart(f, h) + deeds_apart(h, g) == deeds_apart(f, g)


def codes_between(f, rows, order):
    """The codes that rows of a frame span, when they are taken in this order."""
    return codes_along(f.ground(), [rows[position] for position in order])


def all_between(f, g):
    """The list of all nests between f and g, from f on."""
    order, rows = paper_of(f, g)
    # The orders of these nests and f turn no pairs of positions but those
    # that have the greater number first: just these are turned in the order
    # turned back.
    found = [(inversions(one), codes_between(f, rows, one)) for one in orders_below(turned_back(order))]
    return [Nest(f.ground(), codes) for _, codes in sorted(found)]


def count_between(f, g):
    """How many nests are between f and g."""
    return count_below(order_of(f, g))


def nest_between(f, g, order):
    """The nest h between f and g such that this is the order of h and f; or None."""
    difference, rows = paper_of(f, g)
    if not is_order(len(difference), order) or not is_below(order, turned_back(difference)):
        return None
    return Nest(f.ground(), codes_between(f, rows, order))
