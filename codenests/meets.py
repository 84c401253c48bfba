"""Common and joined codes, complements, and the codes between two codes."""

from codenests.codecounts import all_codes
from codenests.codes import pivots, rest
from codenests.grounds import Ground
from codenests.rows import combined
from codenests.squares import eliminated, reduced


def common(ground, one, other):
    """The code of the rows that are in both codes."""
    n = ground.n()
    # Each row of one is written twice, each row of other once with zeros
    # behind it. A combination whose first half is the zero row is of rows of
    # both: its second half is the part from one, which that from other undoes.
    doubled = [row + row for row in one] + [row + ground.zero() for row in other]
    left, columns = eliminated(ground, doubled, 2 * n)
    return tuple([row[n:] for row, column in zip(left, columns) if column >= n])


def joined(ground, one, other):
    """The code of all sums of a row of the one and a row of the other."""
    return reduced(ground, one + other)


def complement(ground, code):
    """The code of the unit rows for the columns that are not pivots."""
    columns = pivots(code)
    return tuple([row for k, row in enumerate(ground.units()) if k not in columns])


def codes_above(ground, low, high, steps):
    """The codes of so many ranks above low that are within high, ascending."""
    beyond = reduced(ground, [rest(ground, low, row) for row in high])
    # What high has beyond low has the same codes as the rows of this length.
    small = all_codes(Ground(ground.p(), len(beyond)), steps)
    chosen = [[combined(ground, numbers, beyond) for numbers in code] for code in small]
    return sorted([reduced(ground, list(low) + rows) for rows in chosen])


def between_codes(ground, low, high):
    """The codes of one rank above low that are within high, ascending."""
    return codes_above(ground, low, high, 1)


def all_codes_between(ground, low, high):
    """All codes that contain low and are within high, rank by rank."""
    found = []
    for steps in range(len(high) - len(low) + 1):
        found.extend(codes_above(ground, low, high, steps))
    return found
