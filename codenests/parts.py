"""Partial nests: some codes, each of them within the next one."""

from codenests.chains import chain_fault
from codenests.errors import BadPart, UnlikeGrounds


def part_fault(ground, value):
    """The path of the first wrong part of the codes of a partial nest, or None."""
    if not isinstance(value, (list, tuple)):
        return ()
    return chain_fault(ground, value, ground.n())


class Part:
    """A partial nest of a ground; it never changes."""

    def __init__(self, ground, codes):
        path = part_fault(ground, codes)
        if path is not None:
            raise BadPart(path)
        self._ground = ground
        self._codes = tuple(codes)

    def ground(self):
        """The ground."""
        return self._ground

    def codes(self):
        """The list of the codes."""
        return list(self._codes)

    def ranks(self):
        """The tuple of the ranks of the codes."""
        return tuple([len(code) for code in self._codes])

    def blocks(self):
        """The steps from 0 over the ranks to the number of columns."""
        n = self._ground.n()
        if n == 0:
            return ()
        ends = (0,) + self.ranks() + (n,)
        return tuple([high - low for low, high in zip(ends, ends[1:])])

    def __eq__(self, other):
        return isinstance(other, Part) and self._ground == other._ground and self._codes == other._codes


def rungs(part):
    """The codes between which the steps lead: those of the part and both ends."""
    ground = part.ground()
    top = [ground.units()] if ground.n() > 0 else []
    return [()] + part.codes() + top


def part_of(nest, levels):
    """The partial nest of the codes of a nest with some levels."""
    return Part(nest.ground(), [nest.code(level) for level in levels])


def is_over(nest, part):
    """Whether a nest has all codes of a partial nest."""
    if nest.ground() != part.ground():
        raise UnlikeGrounds()
    return all([nest.code(len(code)) == code for code in part.codes()])
