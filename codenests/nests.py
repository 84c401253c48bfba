"""Nests: chains of codes, each of them of one rank more than the one before."""

from codenests.chains import chain_fault
from codenests.errors import BadNest, NoLevel, UnlikeGrounds
from codenests.words import is_number


def is_level(ground, value):
    """Whether value, which may be anything, is a level of the nests of a ground."""
    return is_number(value) and 1 <= value < ground.n()


def nest_fault(ground, value):
    """The path of the first wrong part of the codes of a nest, or None."""
    if not isinstance(value, (list, tuple)) or len(value) != len(range(1, ground.n())):
        return ()
    return chain_fault(ground, value, 1)


class Nest:
    """A nest of a ground; it never changes."""

    def __init__(self, ground, codes):
        path = nest_fault(ground, codes)
        if path is not None:
            raise BadNest(path)
        self._ground = ground
        self._codes = tuple(codes)

    def ground(self):
        """The ground."""
        return self._ground

    def codes(self):
        """The list of the codes at the levels."""
        return list(self._codes)

    def code(self, i):
        """The code of rank i."""
        n = self._ground.n()
        if not is_number(i) or i > n:
            raise NoLevel(i)
        if i == 0:
            return ()
        if i == n:
            return self._ground.units()
        return self._codes[i - 1]

    def __eq__(self, other):
        return isinstance(other, Nest) and self._ground == other._ground and self._codes == other._codes


def standard(ground):
    """The nest whose code of rank i has zeros from column i on."""
    units = ground.units()
    return Nest(ground, [units[:i] for i in range(1, ground.n())])


def nest_through(ground, codes):
    """The nest that has each code of a list once.

    The codes go from that of the zero row up to that of all rows, and each is
    the one before it or contains it and is greater by one rank.
    """
    taken = []
    for code in codes:
        if len(taken) < len(code) < ground.n():
            taken.append(code)
    return Nest(ground, taken)


def shared_ground(nests):
    """The ground of all members of a list, nests or partial nests; it is not empty."""
    ground = nests[0].ground()
    for nest in nests:
        if nest.ground() != ground:
            raise UnlikeGrounds()
    return ground
