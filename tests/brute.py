"""What the document says, worked out the long way, for comparison.

Nothing here is taken from the package. A code is a frozenset of all its rows.
"""

import itertools


def rows_of_length(p, n):
    return list(itertools.product(range(p), repeat=n))


def plus(p, one, other):
    return tuple((a + b) % p for a, b in zip(one, other))


def times(p, number, row):
    return tuple(number * a % p for a in row)


def combination(p, n, numbers, rows):
    total = (0,) * n
    for number, row in zip(numbers, rows, strict=True):
        total = plus(p, total, times(p, number, row))
    return total


def span(p, n, rows):
    """The set of all combinations of some rows."""
    found = {(0,) * n}
    for row in rows:
        if row not in found:
            found = {plus(p, old, times(p, k, row)) for old in found for k in range(p)}
    return frozenset(found)


def rank_of_span(p, rows):
    rank = 0
    while p ** rank < len(rows):
        rank += 1
    assert p ** rank == len(rows)
    return rank


def first_entry(row):
    return next((k for k, entry in enumerate(row) if entry), None)


def base_of_span(rows):
    """The reduced base of a closed set of rows, by looking through the set."""
    columns = sorted({first_entry(row) for row in rows if any(row)})
    base = []
    for column in columns:
        fitting = [row for row in rows if first_entry(row) == column and row[column] == 1
                   and not any(row[other] for other in columns if other != column)]
        assert len(fitting) == 1
        base.append(fitting[0])
    return tuple(base)


def all_spans(p, n):
    """All closed sets of rows of length n."""
    rows = rows_of_length(p, n)
    found = {span(p, n, [])}
    fresh = list(found)
    while fresh:
        one = fresh.pop()
        for row in rows:
            if row not in one:
                greater = frozenset(plus(p, old, times(p, k, row)) for old in one for k in range(p))
                if greater not in found:
                    found.add(greater)
                    fresh.append(greater)
    return found


def all_bases(p, n):
    """The reduced bases of all codes, ascending as tuples."""
    return sorted(base_of_span(one) for one in all_spans(p, n))


def laplace(p, square):
    """The determinant by the rule of S1.6, along row 0."""
    if not square:
        return 1
    total = 0
    for column, entry in enumerate(square[0]):
        smaller = [row[:column] + row[column + 1:] for row in square[1:]]
        term = entry * laplace(p, smaller)
        total += term if column % 2 == 0 else -term
    return total % p


def free_entries(base):
    columns = [first_entry(row) for row in base]
    return tuple(entry for row, start in zip(base, columns)
                 for column, entry in enumerate(row)
                 if column > start and column not in columns)


def order_key(base):
    """By this the codes of one rank stand in the order of S2.7."""
    return tuple(first_entry(row) for row in base), free_entries(base)


def all_nests(p, n):
    """The tuples of codes of all nests, from the bases of all codes."""
    spans = {base_of_span(one): one for one in all_spans(p, n)}
    chains = [()]
    for rank in range(1, n):
        chains = [chain + (base,) for chain in chains for base, rows in spans.items()
                  if len(base) == rank and (not chain or spans[chain[-1]] <= rows)]
    return sorted(chains)


def chain_of(p, n, codes):
    """The sets of rows C(0) to C(n) of a nest that is told by its codes."""
    units = [tuple(int(k == column) for column in range(n)) for k in range(n)]
    return [span(p, n, rows) for rows in [[]] + list(codes) + ([units] if n > 0 else [])]


def table(p, n, codes, others):
    """The table of two nests by S4.2."""
    return tuple(tuple(rank_of_span(p, one & other) for other in chain_of(p, n, others))
                 for one in chain_of(p, n, codes))


def order(p, n, codes, others):
    """The order of two nests by S4.3."""
    one, other = chain_of(p, n, codes), chain_of(p, n, others)
    return tuple(min(j for j in range(n) if (one[i + 1] & other[j + 1]) - one[i]) for i in range(n))


def is_frame(p, n, codes, others, rows):
    """Whether n rows are a frame of two nests by S4.4."""
    w = order(p, n, codes, others)
    one, other = chain_of(p, n, codes), chain_of(p, n, others)
    return (all(span(p, n, rows[:i]) == one[i] for i in range(n + 1))
            and all(span(p, n, [rows[a] for a in range(n) if w[a] < j]) == other[j] for j in range(n + 1)))


def count_inversions(w):
    return sum(w[a] > w[b] for b in range(len(w)) for a in range(b))


def random_nest(chance, p, n):
    """The codes of some nest, as reduced bases."""
    rows = []
    while len(rows) < n:
        row = tuple(chance.randrange(p) for _ in range(n))
        if len(echelon(p, rows + [row])) > len(rows):
            rows.append(row)
    return tuple(echelon(p, rows[:i]) for i in range(1, n))


def echelon(p, rows):
    """The reduced base of some rows, put together row by row."""
    base = []
    for row in rows:
        for other in base:
            row = plus(p, row, times(p, -row[first_entry(other)], other))
        if any(row):
            factor = next(k for k in range(p) if k * row[first_entry(row)] % p == 1)
            row = times(p, factor, row)
            base = [plus(p, other, times(p, -other[first_entry(row)], row)) for other in base] + [row]
    return tuple(sorted(base, key=first_entry))


def distances(p, n):
    """The fewest deeds between any two nests, by going through all deeds.

    A dict with a dict for each nest; the nests are told by their codes.
    """
    nests = all_nests(p, n)
    beside = {one: [other for other in nests if sum(a != b for a, b in zip(one, other)) == 1] for one in nests}
    found = {}
    for start in nests:
        away = {start: 0}
        edge = [start]
        while edge:
            one = edge.pop(0)
            for other in beside[one]:
                if other not in away:
                    away[other] = away[one] + 1
                    edge.append(other)
        found[start] = away
    return found


def exchanged(w, i):
    return w[:i - 1] + (w[i], w[i - 1]) + w[i + 1:]


def level_rows(w):
    """All level rows of an order, ascending, by S5.5."""
    if list(w) == sorted(w):
        return [[]]
    return [[i] + row for i in range(1, len(w)) if w[i - 1] > w[i] for row in level_rows(exchanged(w, i))]


def turned(w):
    """The set of the turned pairs by S6.1."""
    return {(x, y) for x in w for y in w if x < y and w.index(y) < w.index(x)}
