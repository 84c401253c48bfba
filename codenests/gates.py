"""The nests over a partial nest, and the nearest one of them: the gate."""

from codenests.counting import count_over
from codenests.differences import order_of
from codenests.errors import TooGreat
from codenests.meets import between_codes, common, joined
from codenests.nests import nest_through, shared_ground
from codenests.orders import inversions
from codenests.parts import rungs
from codenests.powers import power

MOST_NESTS = 2000


def gate(part, nest):
    """The nest over a partial nest that is nearest to a nest."""
    ground = shared_ground([part, nest])
    ends = rungs(part)
    codes = []
    for low, high in zip(ends, ends[1:]):
        shared = [common(ground, high, nest.code(i)) for i in range(ground.n() + 1)]
        codes.extend([joined(ground, low, code) for code in shared])
    return nest_through(ground, codes)


def step_numbers(part, order):
    """The numbers of an order, in tuples by the steps to which they belong."""
    ends = (0,) + part.ranks() + (part.ground().n(),)
    return [order[low:high] for low, high in zip(ends, ends[1:])]


def inversions_within(part, order):
    """How many inversions of an order are within steps."""
    return sum([inversions(numbers) for numbers in step_numbers(part, order)])


def count_over_order(part, nest, order):
    """How many nests over a partial nest have this order with a nest."""
    ground = shared_ground([part, nest])
    risen = [number for numbers in step_numbers(part, order) for number in sorted(numbers)]
    if tuple(risen) != order_of(gate(part, nest), nest):
        return 0
    return power(ground.p(), inversions_within(part, order))


def all_over(part):
    """The list of all nests over a partial nest, ascending by their codes."""
    if count_over(part) > MOST_NESTS:
        raise TooGreat()
    ground = part.ground()
    chains = [((),)]
    for high in rungs(part):
        while len(chains[0][-1]) < len(high):
            # The codes that follow a chain ascend, so all chains do.
            chains = [chain + (code,) for chain in chains for code in between_codes(ground, chain[-1], high)]
    return [nest_through(ground, chain) for chain in chains]
