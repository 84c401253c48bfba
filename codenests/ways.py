"""The fewest deeds from one nest to another one, and the ways that have so few."""

from codenests.deeds import is_deed
from codenests.differences import order_of, paper_of
from codenests.errors import BadDeed, BadLevels, NoLevel
from codenests.levelrows import first_row, levels_fault
from codenests.meets import common, joined
from codenests.nests import is_level, shared_ground
from codenests.orders import inversions, sorting_steps
from codenests.scripts import first_bad, walked
from codenests.squares import reduced


def near_code(f, g, level):
    """The near code of f at a level, towards g."""
    ground = shared_ground([f, g])
    if not is_level(ground, level):
        raise NoLevel(level)
    order = order_of(f, g)
    lesser = min(order[level - 1], order[level])
    return joined(ground, f.code(level - 1), common(ground, f.code(level + 1), g.code(lesser + 1)))


def deeds_apart(f, g):
    """How many deeds lead from f to g, at the fewest."""
    return inversions(order_of(f, g))


def way(f, g, levels):
    """The fewest way with these levels, a list of deeds."""
    order, rows = paper_of(f, g)
    fault = levels_fault(order, levels)
    if fault is not None:
        raise BadLevels(fault)
    deeds = []
    frame = list(rows)
    for level in levels:
        # With the two rows at a sorting step exchanged, the frame is one of
        # the nest behind the deed: the near code has the row of the lesser
        # number.
        frame[level - 1], frame[level] = frame[level], frame[level - 1]
        deeds.append((level, reduced(f.ground(), frame[:level])))
    return deeds


def any_way(f, g):
    """Some fewest way, a list of deeds."""
    return way(f, g, first_row(order_of(f, g)))


def judge_way(f, g, script):
    """None if script, which may be anything, is a fewest way, or what is wrong."""
    fewest = deeds_apart(f, g)
    if not isinstance(script, (list, tuple)):
        return ("form",)
    bad = first_bad(f, script)
    if bad is not None:
        return "deed", bad
    if walked(f, script) != g:
        return ("end",)
    return None if len(script) == fewest else ("deeds", len(script) - fewest)


def change(f, g, deed):
    """How many inversions a deed puts to those between f and g."""
    shared_ground([f, g])
    if not is_deed(f, deed):
        raise BadDeed(0)
    level, code = deed
    near = near_code(f, g, level)
    if code == near:
        return -1
    return 1 if f.code(level) == near else 0


def begins(f, g, deed):
    """Whether a deed begins a fewest way."""
    return change(f, g, deed) == -1


def first_deeds(f, g):
    """The list of the deeds that begin a fewest way, by ascending levels."""
    return [(level, near_code(f, g, level)) for level in sorting_steps(order_of(f, g))]


def kept_levels(f, g):
    """The ascending list of the levels at which f and g have the same code."""
    ground = shared_ground([f, g])
    return [level for level in range(1, ground.n()) if f.code(level) == g.code(level)]


def nearest(f, nests):
    """The index of the first one of the nests that are the fewest deeds away."""
    distances = [deeds_apart(f, nest) for nest in nests]
    return distances.index(min(distances))
