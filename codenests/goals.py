"""What is left of a way to a goal, and nests that stand beside one another."""

from codenests.errors import UnlikeGrounds
from codenests.grounds import Ground
from codenests.nests import nest_through, shared_ground
from codenests.scripts import steps, walked
from codenests.squares import reduced
from codenests.ways import deeds_apart, kept_levels


def left_after(f, g, script):
    """The fewest deeds to g, from f and from behind each deed of a script."""
    shared_ground([f, g])
    return [deeds_apart(nest, g) for nest in steps(f, script)]


def waste(f, g, script):
    """How many deeds more there are with a script than on a fewest way."""
    return len(script) - deeds_apart(f, g) + deeds_apart(walked(f, script), g)


def barred_levels(f, g, levels):
    """The ascending list of those levels at which two nests have different codes."""
    kept = kept_levels(f, g)
    return sorted({level for level in levels if level not in kept})


def nest_beside(f, g):
    """The nest in which f and g stand beside one another."""
    one, other = f.ground(), g.ground()
    if one.p() != other.p():
        raise UnlikeGrounds()
    ground = Ground(one.p(), one.n() + other.n())
    codes = [tuple([row + other.zero() for row in f.code(i)]) for i in range(one.n() + 1)]
    low = codes[-1]
    for i in range(other.n() + 1):
        codes.append(low + tuple([one.zero() + row for row in g.code(i)]))
    return nest_through(ground, codes)


def is_parting(nest, level):
    """Whether a nest has at a level all rows with zeros from that column on."""
    return nest.code(level) == nest.ground().units()[:level]


def parted_nests(nest, level):
    """The two nests that stand beside one another in a nest that can be parted."""
    p, n = nest.ground().p(), nest.ground().n()
    low, high = Ground(p, level), Ground(p, n - level)
    one = [reduced(low, [row[:level] for row in nest.code(i)]) for i in range(level + 1)]
    other = [reduced(high, [row[level:] for row in nest.code(i)]) for i in range(level, n + 1)]
    return nest_through(low, one), nest_through(high, other)
