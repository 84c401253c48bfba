"""Opposite nests: those that are as many deeds apart as nests can be."""

from codenests.below import falling
from codenests.differences import order_of
from codenests.meets import between_codes, common
from codenests.nests import nest_through, shared_ground
from codenests.powers import power


def are_opposite(f, g):
    """Whether two nests are opposite."""
    return order_of(f, g) == falling(f.ground().n())


def count_opposite(ground):
    """How many nests are opposite to one."""
    n = ground.n()
    return power(ground.p(), n * (n - 1) // 2)


def lines_of(f, g):
    """The list of the lines of two nests; None if they are not opposite."""
    if not are_opposite(f, g):
        return None
    n = f.ground().n()
    return [common(f.ground(), f.code(i + 1), g.code(n - i)) for i in range(n)]


def is_apart(ground, code, nests):
    """Whether a code can be that of its rank in a nest opposite to all of a list."""
    across = ground.n() - len(code)
    return all([len(common(ground, code, nest.code(across))) == 0 for nest in nests])


def chain_apart(ground, chain, nests, given_back):
    """A chain of codes that goes on to the code of all rows, all of them apart; or None.

    A code that fits may lead nowhere. Then it is a key of given_back, so that
    it is not tried again behind other codes.
    """
    if len(chain) > ground.n():
        return chain
    for code in between_codes(ground, chain[-1], ground.units()):
        if code not in given_back and is_apart(ground, code, nests):
            longer = chain_apart(ground, chain + [code], nests, given_back)
            if longer is not None:
                return longer
            given_back[code] = True
    return None


def opposite_to(nests):
    """Some nest that is opposite to all of a list; or None."""
    ground = shared_ground(nests)
    chain = chain_apart(ground, [()], nests, {})
    return None if chain is None else nest_through(ground, chain)
