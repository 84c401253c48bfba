"""Two partial nests: cross tables, cross frames, and what stands in a cross table."""

from codenests.counting import step_product
from codenests.differences import base_of, paper_of
from codenests.errors import TooGreat
from codenests.gates import gate
from codenests.grounds import Ground
from codenests.maps import map_along
from codenests.meets import common
from codenests.nests import shared_ground, standard
from codenests.parts import Part, rungs
from codenests.powers import power
from codenests.rows import row_fault
from codenests.squares import reduced
from codenests.words import is_number

MOST_TABLES = 2000


def row_of_table(below, row):
    """What each number of a row adds to those ahead of it and below it."""
    grown = [more - less for more, less in zip(row, below)]
    return tuple([more - less for more, less in zip(grown[1:], grown)])


def part_table(one, other):
    """The cross table of two partial nests."""
    ground = shared_ground([one, other])
    ranks = [[len(common(ground, low, high)) for high in rungs(other)] for low in rungs(one)]
    return tuple([row_of_table(below, row) for below, row in zip(ranks, ranks[1:])])


def step_of(part, position):
    """The number of the step of a partial nest to which a position belongs."""
    return 1 + len([end for end in part.ranks() if end <= position])


def part_frame(one, other):
    """Some cross frame of two partial nests, a list of triples."""
    start = standard(shared_ground([one, other]))
    order, rows = paper_of(gate(one, start), gate(other, start))
    return [(rows[i], step_of(one, i), step_of(other, number)) for i, number in enumerate(order)]


def is_triple(one, other, value):
    """Whether value, which may be anything, is a row and a step of each partial nest."""
    if not isinstance(value, tuple) or len(value) != 3 or row_fault(one.ground(), value[0]) is not None:
        return False
    x, y = value[1:]
    return is_number(x) and 1 <= x < len(rungs(one)) and is_number(y) and 1 <= y < len(rungs(other))


def are_rungs(part, rows, steps):
    """Whether the rows up to each step span the code at its end."""
    for x, code in enumerate(rungs(part)):
        if reduced(part.ground(), [row for row, step in zip(rows, steps) if step <= x]) != code:
            return False
    return True


def judge_part_frame(one, other, value):
    """Whether value, which may be anything, is a cross frame."""
    ground = shared_ground([one, other])
    if not isinstance(value, (list, tuple)) or len(value) != ground.n():
        return False
    if not all([is_triple(one, other, triple) for triple in value]):
        return False
    rows = [row for row, _, _ in value]
    return are_rungs(one, rows, [x for _, x, _ in value]) and are_rungs(other, rows, [y for _, _, y in value])


def rows_by_steps(one, other):
    """The rows of a cross frame by the steps to which they belong."""
    triples = sorted([(x, y, row) for row, x, y in part_frame(one, other)])
    return tuple([row for _, _, row in triples])


def map_of_parts(one, other, third, fourth):
    """Some map that leads one to third and other to fourth; or None."""
    ground = shared_ground([one, other, third, fourth])
    if part_table(one, other) != part_table(third, fourth):
        return None
    return map_along(ground, rows_by_steps(one, other), rows_by_steps(third, fourth))


def column_sums(table, many):
    """The sums of the columns of a table with so many columns."""
    return [sum([row[y] for row in table]) for y in range(many)]


def crossings(table):
    """The sum of the products of numbers with those below them, further to the left."""
    return sum([number * lower for x, row in enumerate(table) for y, number in enumerate(row)
                for other in table[x + 1:] for lower in other[:y]])


def count_table(p, table):
    """How many partial nests have this cross table with a given one."""
    sums = column_sums(table, len(table[0])) if len(table) > 0 else []
    if 0 in sums or 0 in [sum(row) for row in table]:
        return 0
    ground = Ground(p, 0)
    worth = power(p, crossings(table))
    for many in sums:
        worth = worth * step_product(ground, many)
    for row in table:
        for number in row:
            worth = worth // step_product(ground, number)
    return worth


def fits_part(part, table):
    """Whether some partial nest has this cross table with a partial nest."""
    blocks = part.blocks()
    if not all([len(row) == len(blocks) and sum(row) > 0 for row in table]):
        return False
    return column_sums(table, len(blocks)) == list(blocks)


def part_with(part, table):
    """Some partial nest that has this cross table with a partial nest; or None."""
    if not fits_part(part, table):
        return None
    ground = part.ground()
    base = base_of(gate(part, standard(ground)))
    taken = [0] + list(part.ranks())
    rows = []
    codes = []
    for numbers in table[:-1]:
        for y, number in enumerate(numbers):
            rows.extend(base[taken[y]:taken[y] + number])
            taken[y] = taken[y] + number
        codes.append(reduced(ground, rows))
    return Part(ground, codes)


def table_rows(total, most):
    """The ascending list of the tuples that add up to total, none of them above most."""
    begun = [()]
    for y, top in enumerate(most):
        room = sum(most[y + 1:])
        begun = [row + (number,) for row in begun
                 for number in range(max(0, total - sum(row) - room), min(top, total - sum(row)) + 1)]
    return begun


def all_tables(rows, columns):
    """The ascending list of all tables whose rows and columns have these sums."""
    if sum(rows) != sum(columns):
        return []
    tables = [()]
    for total in rows:
        longer = []
        for table in tables:
            left = [top - taken for top, taken in zip(columns, column_sums(table, len(columns)))]
            longer.extend([table + (row,) for row in table_rows(total, left)])
        # Each table that has begun can be completed, so there are never fewer.
        if len(longer) > MOST_TABLES:
            raise TooGreat()
        tables = longer
    return tables
