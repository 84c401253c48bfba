import itertools
import math
import random
import unittest

from codenests.errors import TooGreat, UnlikeGrounds
from codenests.grounds import Ground
from codenests.leading import led_part
from codenests.maps import is_map
from codenests.nests import Nest, standard
from codenests.parts import Part, part_of
from codenests.tables import (all_tables, count_table, judge_part_frame, map_of_parts, part_frame, part_table,
                              part_with)
from tests import brute
from tests.anything import GREAT, NEGATIVE, deep, no_integers
from tests.test_differences import some_nests
from tests.test_gates import parts_of_ground, some_parts
from tests.test_maps import maps_by_rows, some_maps

SMALL = [(2, 0), (5, 0), (2, 1), (5, 1), (2, 2), (3, 2), (2, 3)]

# The partial nest L of the example of S9.6.
L = Part(Ground(2, 3), [((1, 0, 0), (0, 1, 0))])


def spans_of(part):
    """The sets of rows of K(0), K(1), .. , as S9.1 tells them."""
    p, n = part.ground().p(), part.ground().n()
    units = [tuple(int(k == j) for j in range(n)) for k in range(n)]
    return [brute.span(p, n, code) for code in [[]] + part.codes() + ([units] if n else [])]


def table_by_rows(one, other):
    """The cross table by the words of S9.4."""
    p = one.ground().p()
    d = [[brute.rank_of_span(p, low & high) for high in spans_of(other)] for low in spans_of(one)]
    return tuple(tuple(d[x][y] - d[x - 1][y] - d[x][y - 1] + d[x - 1][y - 1] for y in range(1, len(d[0])))
                 for x in range(1, len(d)))


def is_part_frame(one, other, triples):
    """Whether triples of a row and two integers are a cross frame by S9.5."""
    p, n = one.ground().p(), one.ground().n()
    if len(triples) != n or len(brute.span(p, n, [row for row, _, _ in triples])) != p ** n:
        return False
    for at, spans in [(1, spans_of(one)), (2, spans_of(other))]:
        if any(not 1 <= triple[at] < len(spans) for triple in triples):
            return False
        for x, rows in enumerate(spans):
            if brute.span(p, n, [triple[0] for triple in triples if triple[at] <= x]) != rows:
                return False
    return True


def some_pairs(p, n, many, seed):
    """Pairs of partial nests of all kinds."""
    others = some_parts(p, n, many, seed + 1)
    random.Random(seed).shuffle(others)
    return list(zip(some_parts(p, n, many, seed), others))


def pairs_of_all_kinds():
    for p, n in SMALL[:-1]:
        yield from itertools.product(parts_of_ground(p, n), repeat=2)
    yield from list(itertools.product(parts_of_ground(2, 3), repeat=2))[::3]
    for p, n, many in [(3, 3, 30), (2, 4, 40), (13, 3, 8)]:
        yield from some_pairs(p, n, many, 10 * p + n)


def tables_of_lengths(many, width, most):
    return itertools.product(itertools.product(range(most + 1), repeat=width), repeat=many)


def tables_to_try(n):
    """Tables of all small shapes; of the greater shapes those with small numbers alone."""
    for many, width in itertools.product(range(n + 2), repeat=2):
        most = next(most for most in range(n, -1, -1) if (most + 1) ** (many * width) <= 5000)
        yield from tables_of_lengths(many, width, most)


class CrossTables(unittest.TestCase):
    def test_the_example(self):
        ground = Ground(2, 3)
        for row in brute.rows_of_length(2, 3)[1:]:
            wanted = ((0, 1), (2, 0)) if row[2] else ((1, 0), (1, 1))
            self.assertEqual(part_table(Part(ground, [brute.echelon(2, [row])]), L), wanted)

    def test_against_the_words(self):
        for one, other in pairs_of_all_kinds():
            table = part_table(one, other)
            self.assertEqual(table, table_by_rows(one, other))
            self.assertEqual(part_table(other, one), tuple(zip(*table)))
            self.assertEqual(tuple(sum(row) for row in table), one.blocks())
            self.assertEqual(tuple(sum(column) for column in zip(*table)), other.blocks())

    def test_whole_nests(self):
        for p, n in [(2, 2), (3, 3), (2, 4), (13, 6)]:
            for f, g in itertools.product(some_nests(p, n, 4, 3), repeat=2):
                w = normal = None
                w = brute.order(p, n, f.codes(), g.codes()) if p ** n < 100 else None
                table = part_table(Part(f.ground(), f.codes()), Part(g.ground(), g.codes()))
                normal = tuple(row.index(1) for row in table)
                self.assertEqual(table, tuple(tuple(int(k == j) for j in range(n)) for k in normal))
                self.assertIn(w, [None, normal])

    def test_without_codes(self):
        for p, n in SMALL + [(13, 6)]:
            empty = Part(Ground(p, n), [])
            self.assertEqual(part_table(empty, empty), ((n,),) if n else ())
            for part in some_parts(p, n, 8, 4):
                self.assertEqual(part_table(part, empty), tuple((block,) for block in part.blocks()))
                self.assertEqual(part_table(empty, part), (part.blocks(),) if n else ())

    def test_a_part_with_itself(self):
        for part in some_parts(13, 6, 32, 5):
            blocks = part.blocks()
            wanted = tuple(tuple(block if x == y else 0 for y in range(len(blocks))) for x, block in enumerate(blocks))
            self.assertEqual(part_table(part, part), wanted)


class CrossFrames(unittest.TestCase):
    def test_a_told_frame_is_one(self):
        for one, other in pairs_of_all_kinds():
            triples = part_frame(one, other)
            self.assertIs(type(triples), list)
            self.assertTrue(all(type(triple) is tuple and type(triple[0]) is tuple for triple in triples))
            self.assertTrue(is_part_frame(one, other, triples))
            for value in [triples, tuple(triples), triples[::-1]]:
                self.assertIs(judge_part_frame(one, other, value), True)

    def test_great_grounds(self):
        for p, n in [(13, 6), (2, 6)]:
            for one, other in some_pairs(p, n, 32, 6):
                triples = part_frame(one, other)
                self.assertIs(judge_part_frame(one, other, triples), True)
                table = part_table(one, other)
                for x, row in enumerate(table):
                    for y, number in enumerate(row):
                        self.assertEqual(len([t for t in triples if t[1:] == (x + 1, y + 1)]), number)

    def test_other_triples(self):
        chance = random.Random(7)
        answers = {True: 0, False: 0}
        for one, other in itertools.islice(pairs_of_all_kinds(), 0, None, 4):
            p, n = one.ground().p(), one.ground().n()
            for _ in range(12):
                triples = part_frame(one, other)
                for _ in range(chance.randrange(3)):
                    if n > 0:
                        k = chance.randrange(n)
                        row, x, y = triples[k]
                        kind = chance.randrange(4)
                        if kind == 0:
                            row = brute.plus(p, row, triples[chance.randrange(n)][0])
                        elif kind == 1:
                            row = tuple(chance.randrange(p) for _ in range(n))
                        elif kind == 2:
                            x = chance.randrange(len(one.blocks()) + 2)
                        else:
                            y = chance.randrange(len(other.blocks()) + 2)
                        triples[k] = (row, x, y)
                wanted = is_part_frame(one, other, triples)
                self.assertIs(judge_part_frame(one, other, triples), wanted)
                self.assertIs(judge_part_frame(one, other, tuple(triples)), wanted)
                answers[wanted] += 1
        self.assertGreater(min(answers.values()), 100)

    def test_all_triples_of_a_small_ground(self):
        ground = Ground(2, 2)
        rows = brute.rows_of_length(2, 2)
        for one, other in itertools.product(parts_of_ground(2, 2), repeat=2):
            for triples in itertools.product(itertools.product(rows, range(4), range(4)), repeat=2):
                self.assertIs(judge_part_frame(one, other, triples), is_part_frame(one, other, triples))
            self.assertEqual(one.ground(), ground)

    def test_values_of_all_kinds(self):
        one, other = Part(Ground(3, 3), [((1, 0, 2),)]), Part(Ground(3, 3), [((0, 1, 1),)])
        triples = part_frame(one, other)
        wrong = no_integers() + NEGATIVE + [0, 3, GREAT, one, "abc", {0: triples}, deep(triples)]
        for value in wrong + [triples[:2], triples + triples[:1], [triples], tuple(triples[:2])]:
            self.assertIs(judge_part_frame(one, other, value), False)
        for k in range(3):
            for value in wrong + [list(triples[k]), triples[k][:2], triples[k] + (1,)]:
                self.assertIs(judge_part_frame(one, other, triples[:k] + [value] + triples[k + 1:]), False)
            for at in range(3):
                for value in wrong + [list(triples[k][0])]:
                    triple = triples[k][:at] + (value,) + triples[k][at + 1:]
                    spoiled = triples[:k] + [triple] + triples[k + 1:]
                    self.assertIs(judge_part_frame(one, other, spoiled), False, spoiled)
            row, x, y = triples[k]
            for entry in no_integers() + NEGATIVE + [3, GREAT]:
                spoiled = triples[:k] + [((entry,) + row[1:], x, y)] + triples[k + 1:]
                self.assertIs(judge_part_frame(one, other, spoiled), False)

    def test_true_is_no_step(self):
        part = Part(Ground(2, 1), [])
        self.assertIs(judge_part_frame(part, part, [((1,), 1, 1)]), True)
        self.assertIs(judge_part_frame(part, part, [((1,), True, 1)]), False)
        self.assertIs(judge_part_frame(part, part, [((1,), 1, True)]), False)
        self.assertIs(judge_part_frame(part, part, [((True,), 1, 1)]), False)

    def test_no_columns(self):
        part = Part(Ground(5, 0), [])
        self.assertEqual(part_frame(part, part), [])
        for value in [[], ()]:
            self.assertIs(judge_part_frame(part, part, value), True)
        for value in [None, {}, "", 0, [()], [((), 1, 1)], (((), 0, 0),)]:
            self.assertIs(judge_part_frame(part, part, value), False)


class MapsOfParts(unittest.TestCase):
    def check(self, one, other, third, fourth):
        found = map_of_parts(one, other, third, fourth)
        if part_table(one, other) == part_table(third, fourth):
            self.assertTrue(is_map(one.ground(), found))
            self.assertEqual((led_part(one, found), led_part(other, found)), (third, fourth))
        else:
            self.assertIsNone(found)
        return found

    def test_small_grounds(self):
        for p, n in [(2, 0), (5, 0), (2, 1), (2, 2), (3, 2)]:
            maps = maps_by_rows(p, n)
            for one, other in itertools.product(parts_of_ground(p, n), repeat=2):
                reached = {(tuple(led_part(one, m).codes()), tuple(led_part(other, m).codes())) for m in maps}
                for third, fourth in itertools.product(parts_of_ground(p, n), repeat=2):
                    found = self.check(one, other, third, fourth)
                    self.assertIs(found is None, (tuple(third.codes()), tuple(fourth.codes())) not in reached)

    def test_greater_grounds(self):
        for p, n in [(2, 3), (3, 3), (13, 6), (2, 6)]:
            for (one, other), m in zip(some_pairs(p, n, 16, 8), some_maps(p, n, 16, 9)):
                self.assertIsNotNone(self.check(one, other, led_part(one, m), led_part(other, m)))
                self.check(one, other, other, one)
                self.check(one, other, one, one)
                self.check(one, one, other, other)

    def test_all_fours_of_some_parts(self):
        parts = parts_of_ground(2, 3)[::4]
        kinds = {self.check(*four) is None for four in list(itertools.product(parts, repeat=4))[::7]}
        self.assertEqual(kinds, {True, False})


class CountTables(unittest.TestCase):
    def test_the_example(self):
        self.assertEqual(count_table(2, ((0, 1), (2, 0))), 4)
        self.assertEqual(count_table(2, ((1, 0), (1, 1))), 3)

    def test_lists_of_all_parts(self):
        for p, n in [(2, 1), (5, 1), (2, 2), (3, 2), (2, 3), (3, 3)]:
            parts = parts_of_ground(p, n)
            for other in parts[::len(parts) // 6 + 1]:
                found = {}
                for one in parts:
                    table = table_by_rows(one, other)
                    found[table] = found.get(table, 0) + 1
                for table, many in found.items():
                    self.assertEqual(count_table(p, table), many)
                for table in tables_to_try(n):
                    if table and {len(row) for row in table} == {len(other.blocks())}:
                        if tuple(map(sum, zip(*table))) == other.blocks() and all(sum(row) for row in table):
                            self.assertIn(table, found)

    def test_noughts(self):
        for p in [2, 13]:
            self.assertEqual(count_table(p, ()), 1)
            for table in [((),), ((), ()), ((0,),), ((1,), (0,)), ((0,), (1,)), ((1, 0),), ((0, 1),), ((0, 0), (0, 0)),
                          ((1, 0), (2, 0)), ((1, 2), (0, 0)), ((0, 0), (3, 1)), ((0, 3, 1), (0, 1, 1))]:
                self.assertEqual(count_table(p, table), 0, table)
            self.assertEqual(count_table(p, ((1,),)), 1)
            self.assertEqual(count_table(p, ((4,),)), 1)

    def test_great_sums(self):
        def product_of(p, m):
            return math.prod((p ** k - 1) // (p - 1) for k in range(1, m + 1))

        chance = random.Random(96)
        for p in [2, 13]:
            for _ in range(20):
                table = tuple(tuple(chance.randrange(4) for _ in range(5)) for _ in range(4))
                above = math.prod(product_of(p, sum(column)) for column in zip(*table))
                below = math.prod(product_of(p, number) for row in table for number in row)
                m = sum(table[x][y] * table[a][b] for x in range(4) for a in range(x + 1, 4)
                        for y in range(5) for b in range(y))
                right = all(sum(line) for line in list(table) + list(zip(*table)))
                self.assertEqual(count_table(p, table), p ** m * above // below if right else 0)
        self.assertEqual(count_table(13, ((30,),)), 1)
        self.assertEqual(count_table(13, ((0, 15), (15, 0))), 13 ** 225)


class PartsWith(unittest.TestCase):
    def test_each_table_that_occurs_and_no_other(self):
        for p, n in [(2, 0), (2, 1), (5, 1), (2, 2), (3, 2), (2, 3)]:
            parts = parts_of_ground(p, n)
            for part in parts[::3] + parts[-1:]:
                occur = {part_table(one, part) for one in parts}
                for table in list(tables_to_try(n)) + sorted(occur):
                    found = part_with(part, table)
                    self.assertIs(found is None, table not in occur, table)
                    if found is not None:
                        self.assertEqual(part_table(found, part), table)
                        self.assertEqual(found.ground(), part.ground())

    def test_rows_of_unlike_lengths(self):
        part = Part(Ground(2, 3), [((1, 1, 0),)])
        for table in [((1,), (0, 2)), ((1, 2), ()), ((1, 2, 0),), ((1, 0), (0, 1, 0), (0, 1)), ((1, 0), (0,), (0, 2)),
                      ((), (1, 2)), ((0, 2), (1,)), ((1, 0, 0), (0, 2, 0))]:
            self.assertIsNone(part_with(part, table), table)
        self.assertIsNotNone(part_with(part, ((1, 0), (0, 2))))

    def test_great_grounds(self):
        for p, n in [(13, 6), (2, 6), (3, 5)]:
            for one, part in some_pairs(p, n, 32, 10):
                table = part_table(one, part)
                self.assertEqual(part_table(part_with(part, table), part), table)

    def test_other_numbers(self):
        part = Part(Ground(13, 6), [((1, 2, 3, 4, 5, 6),)])
        for table in [((GREAT, 0), (0, 5)), ((1, 4), (0, 0)), ((0, 0), (1, 5)), ((1, 4),), ((1, 6),), ((0, 5),), ()]:
            self.assertIsNone(part_with(part, table), table)
        self.assertEqual(part_with(part, ((1, 5),)), Part(Ground(13, 6), []))

    def test_no_columns(self):
        part = Part(Ground(3, 0), [])
        self.assertEqual(part_with(part, ()), part)
        for table in [((),), ((0,),), ((1,),), ((), ())]:
            self.assertIsNone(part_with(part, table))
        self.assertIsNone(part_with(Part(Ground(3, 1), []), ()))


class AllTables(unittest.TestCase):
    def tables_by_search(self, rows, columns):
        most = max(columns, default=0)
        return [table for table in tables_of_lengths(len(rows), len(columns), most)
                if [sum(row) for row in table] == rows
                and [sum(row[y] for row in table) for y in range(len(columns))] == columns]

    def sums(self, total):
        """All lists of integers of at least 1 that add up to total."""
        if total == 0:
            return [[]]
        return [[first] + later for first in range(1, total + 1) for later in self.sums(total - first)]

    def test_small_sums(self):
        for total in range(5):
            for rows, columns in itertools.product(self.sums(total), repeat=2):
                if (max(columns, default=0) + 1) ** (len(rows) * len(columns)) <= 70000:
                    found = all_tables(rows, columns)
                    self.assertEqual(found, self.tables_by_search(rows, columns))
                    self.assertEqual(all_tables(tuple(rows), tuple(columns)), found)
                    self.assertIs(type(found), list)

    def test_nothing(self):
        self.assertEqual(all_tables([], []), [()])
        self.assertEqual(all_tables((), ()), [()])
        for rows, columns in [([1], []), ([], [1]), ([1, 2], [2]), ([8], [1] * 6), ([1] * 6, [8]), ([3, 4], [4, 4])]:
            self.assertEqual(all_tables(rows, columns), [])

    def test_known_ones(self):
        self.assertEqual(all_tables([1, 2], [2, 1]), [((0, 1), (2, 0)), ((1, 0), (1, 1))])
        self.assertEqual(all_tables([8], [3, 5]), [((3, 5),)])
        self.assertEqual(all_tables([3, 5], [8]), [((3,), (5,))])
        found = all_tables([1] * 6, [1] * 6)
        self.assertEqual(found, sorted(found))
        self.assertEqual(len(set(found)), 720)

    def test_greater_sums(self):
        for rows, columns in [([2, 3, 3], [4, 2, 2]), ([4, 4], [2, 2, 2, 2]), ([5, 1, 1, 1], [3, 3, 2]),
                              ([1, 2, 1, 4], [6, 1, 1])]:
            found = all_tables(rows, columns)
            self.assertEqual(found, sorted(set(found)))
            self.assertTrue(all([sum(row) for row in table] == rows for table in found))
            self.assertTrue(all([sum(column) for column in zip(*table)] == columns for table in found))
            self.assertEqual(len(found), self.number(rows, tuple(columns)))

    def number(self, rows, left):
        """How many tables there are, by taking the rows one after another."""
        if not rows:
            return 1 if not any(left) else 0
        return sum(self.number(rows[1:], tuple(a - b for a, b in zip(left, row)))
                   for row in itertools.product(*[range(a + 1) for a in left]) if sum(row) == rows[0])

    def test_too_great(self):
        for rows, columns in [([2, 2, 1, 1, 1, 1], [2, 2, 1, 1, 1, 1]), ([3, 1, 1, 1, 1, 1], [2, 2, 1, 1, 1, 1])]:
            self.assertGreater(self.number(rows, tuple(columns)), 2000)
            with self.assertRaises(TooGreat):
                all_tables(rows, columns)
        borders = [([2, 2, 2, 1, 1], [2, 2, 1, 1, 1, 1], 1548), ([3, 1, 1, 1, 1, 1], [3, 1, 1, 1, 1, 1], 1520),
                   ([2, 2, 1, 1, 1, 1], [3, 1, 1, 1, 1, 1], 2040)]
        for rows, columns, many in borders:
            self.assertEqual(self.number(rows, tuple(columns)), many)
            if many > 2000:
                with self.assertRaises(TooGreat):
                    all_tables(rows, columns)
            else:
                found = all_tables(rows, columns)
                self.assertEqual((len(found), found), (many, sorted(set(found))))

    def test_a_new_list(self):
        found = all_tables([1, 2], [2, 1])
        found.clear()
        self.assertEqual(len(all_tables([1, 2], [2, 1])), 2)


class Unlike(unittest.TestCase):
    def test_unlike_grounds_come_first(self):
        nests = [standard(Ground(p, n)) for p, n in [(2, 0), (3, 0), (2, 1), (2, 3), (3, 3), (2, 4)]]
        parts = [Part(nest.ground(), nest.codes()) for nest in nests]
        for one, other in itertools.permutations(parts, 2):
            for function in [part_table, part_frame]:
                with self.assertRaises(UnlikeGrounds):
                    function(one, other)
            for value in [None, [], (), [((), 1, 1)], 7]:
                with self.assertRaises(UnlikeGrounds):
                    judge_part_frame(one, other, value)
            for four in [(other, one, one, one), (one, other, one, one), (one, one, other, one),
                         (one, one, one, other), (one, one, other, other), (one, other, one, other)]:
                with self.assertRaises(UnlikeGrounds):
                    map_of_parts(*four)

    def test_partial_nests_of_nests(self):
        nest = Nest(Ground(2, 3), [((1, 1, 0),), ((1, 1, 0), (0, 0, 1))])
        self.assertEqual(part_table(part_of(nest, [1]), part_of(nest, [2])), ((1, 0), (1, 1)))
