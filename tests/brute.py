"""What the document says, worked out the long way, for comparison.

Nothing here is taken from the package. A code is a frozenset of all its rows.
"""

import itertools


def rows_of_length(p, n):
    return list(itertools.product(range(p), repeat=n))


def plus(p, one, other):
    return tuple((a + b) % p for a, b in zip(one, other))


def times(p, number, row):
    return tuple(number * a % p for a in row)


def combination(p, n, numbers, rows):
    total = (0,) * n
    for number, row in zip(numbers, rows, strict=True):
        total = plus(p, total, times(p, number, row))
    return total


def span(p, n, rows):
    """The set of all combinations of some rows."""
    found = {(0,) * n}
    for row in rows:
        if row not in found:
            found = {plus(p, old, times(p, k, row)) for old in found for k in range(p)}
    return frozenset(found)


def rank_of_span(p, rows):
    rank = 0
    while p ** rank < len(rows):
        rank += 1
    assert p ** rank == len(rows)
    return rank


def first_entry(row):
    return next((k for k, entry in enumerate(row) if entry), None)


def base_of_span(rows):
    """The reduced base of a closed set of rows, by looking through the set."""
    columns = sorted({first_entry(row) for row in rows if any(row)})
    base = []
    for column in columns:
        fitting = [row for row in rows if first_entry(row) == column and row[column] == 1
                   and not any(row[other] for other in columns if other != column)]
        assert len(fitting) == 1
        base.append(fitting[0])
    return tuple(base)


def all_spans(p, n):
    """All closed sets of rows of length n."""
    rows = rows_of_length(p, n)
    found = {span(p, n, [])}
    fresh = list(found)
    while fresh:
        one = fresh.pop()
        for row in rows:
            if row not in one:
                greater = frozenset(plus(p, old, times(p, k, row)) for old in one for k in range(p))
                if greater not in found:
                    found.add(greater)
                    fresh.append(greater)
    return found


def all_bases(p, n):
    """The reduced bases of all codes, ascending as tuples."""
    return sorted(base_of_span(one) for one in all_spans(p, n))


def laplace(p, square):
    """The determinant by the rule of S1.6, along row 0."""
    if not square:
        return 1
    total = 0
    for column, entry in enumerate(square[0]):
        smaller = [row[:column] + row[column + 1:] for row in square[1:]]
        term = entry * laplace(p, smaller)
        total += term if column % 2 == 0 else -term
    return total % p


def free_entries(base):
    columns = [first_entry(row) for row in base]
    return tuple(entry for row, start in zip(base, columns)
                 for column, entry in enumerate(row)
                 if column > start and column not in columns)


def order_key(base):
    """By this the codes of one rank stand in the order of S2.7."""
    return tuple(first_entry(row) for row in base), free_entries(base)


def all_nests(p, n):
    """The tuples of codes of all nests, from the bases of all codes."""
    spans = {base_of_span(one): one for one in all_spans(p, n)}
    chains = [()]
    for rank in range(1, n):
        chains = [chain + (base,) for chain in chains for base, rows in spans.items()
                  if len(base) == rank and (not chain or spans[chain[-1]] <= rows)]
    return sorted(chains)
