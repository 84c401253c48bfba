import itertools
import random
import unittest

from codenests.differences import order_of
from codenests.errors import BadRow
from codenests.grounds import Ground
from codenests.nests import Nest, standard
from codenests.opposites import are_opposite
from codenests.rows import dot
from codenests.sides import beyond, coordinates, short_rest, turned, turned_code, turned_order, within
from codenests.ways import deeds_apart
from tests import brute
from tests.test_differences import F, G, H, opposite, some_nests

SMALL = [(2, 0), (5, 0), (2, 1), (5, 1), (2, 2), (3, 2), (7, 2), (2, 3), (3, 3), (2, 4)]


def nests_of_ground(p, n):
    return [Nest(Ground(p, n), codes) for codes in brute.all_nests(p, n)]


def some_codes(p, n, many, seed):
    """Codes of all ranks."""
    found = []
    for k, nest in enumerate(some_nests(p, n, many, seed)):
        found.append(nest.code(k % (n + 1)))
    return found


def columns_of(code):
    return [brute.first_entry(row) for row in code]


def short_by_words(p, n, code, row):
    """The row less the combination of the code by its entries at the pivots, short."""
    columns = columns_of(code)
    less = brute.combination(p, n, [row[column] for column in columns], code)
    left = brute.plus(p, row, brute.times(p, -1, less))
    assert not any(left[column] for column in columns)
    return tuple(entry for column, entry in enumerate(left) if column not in columns)


def within_by_rows(nest, code):
    """The codes that a nest becomes within a code, from the sets of all rows."""
    p, n = nest.ground().p(), nest.ground().n()
    columns = columns_of(code)
    found = []
    for rows in brute.chain_of(p, n, nest.codes()):
        told = {tuple(row[column] for column in columns) for row in rows & brute.span(p, n, code)}
        base = brute.base_of_span(frozenset(told))
        if base not in found:
            found.append(base)
    return [base for base in found if 0 < len(base) < len(code)]


def beyond_by_rows(nest, code):
    p, n = nest.ground().p(), nest.ground().n()
    found = []
    for rows in brute.chain_of(p, n, nest.codes()):
        base = brute.base_of_span(frozenset(short_by_words(p, n, code, row) for row in rows))
        if base not in found:
            found.append(base)
    return [base for base in found if 0 < len(base) < n - len(code)]


class TurnedCodes(unittest.TestCase):
    def test_all_rows_of_small_grounds(self):
        for p, n in SMALL:
            ground = Ground(p, n)
            rows = brute.rows_of_length(p, n)
            for code in brute.all_bases(p, n):
                wanted = frozenset(row for row in rows
                                   if all(sum(a * b for a, b in zip(row, one)) % p == 0 for one in code))
                self.assertEqual(turned_code(ground, code), brute.base_of_span(wanted))
                self.assertEqual(turned_code(ground, turned_code(ground, code)), code)

    def test_great_grounds(self):
        for p, n in [(13, 6), (2, 6), (2, 8)]:
            ground = Ground(p, n)
            for code in some_codes(p, n, 20, 1):
                found = turned_code(ground, code)
                self.assertEqual(len(found), n - len(code))
                self.assertEqual(brute.echelon(p, found), found)
                self.assertTrue(all(dot(ground, one, other) == 0 for one in code for other in found))
                self.assertEqual(turned_code(ground, found), code)

    def test_both_ends(self):
        for p, n in SMALL + [(13, 6)]:
            ground = Ground(p, n)
            self.assertEqual(turned_code(ground, ()), ground.units())
            self.assertEqual(turned_code(ground, ground.units()), ())

    def test_a_code_may_be_within_itself_turned(self):
        self.assertEqual(turned_code(Ground(2, 2), ((1, 1),)), ((1, 1),))
        self.assertEqual(turned_code(Ground(5, 2), ((1, 2),)), ((1, 2),))
        self.assertEqual(turned_code(Ground(3, 2), ((1, 1),)), ((1, 2),))


class TurnedNests(unittest.TestCase):
    def test_levels(self):
        for p, n in SMALL:
            for nest in nests_of_ground(p, n)[::3]:
                found = turned(nest)
                self.assertEqual(found.ground(), nest.ground())
                for i in range(n + 1):
                    self.assertEqual(found.code(i), turned_code(nest.ground(), nest.code(n - i)))
                self.assertEqual(turned(found), nest)

    def test_orders(self):
        for p, n in [(2, 0), (5, 1), (2, 2), (3, 2), (2, 3)]:
            for f, g in itertools.product(nests_of_ground(p, n), repeat=2):
                w = order_of(f, g)
                wanted = tuple(n - 1 - w[n - 1 - i] for i in range(n))
                self.assertEqual(turned_order(w), wanted)
                self.assertEqual(order_of(turned(f), turned(g)), wanted)
                self.assertEqual(deeds_apart(turned(f), turned(g)), deeds_apart(f, g))
        for p, n in [(13, 6), (2, 6), (3, 4)]:
            for f, g in zip(some_nests(p, n, 6, 2), some_nests(p, n, 6, 3)):
                self.assertEqual(order_of(turned(f), turned(g)), turned_order(order_of(f, g)))
                self.assertIs(are_opposite(turned(f), turned(g)), are_opposite(f, g))

    def test_turned_order(self):
        self.assertEqual(turned_order(()), ())
        self.assertEqual(turned_order((0,)), (0,))
        self.assertEqual(turned_order((1, 2, 0)), (2, 0, 1))
        self.assertEqual(turned_order((2, 0, 3, 1)), (2, 0, 3, 1))
        self.assertEqual(turned_order((3, 0, 1, 2)), (1, 2, 3, 0))
        w = tuple(random.Random(4).sample(range(30), 30))
        self.assertEqual(turned_order(w), tuple(29 - w[29 - i] for i in range(30)))
        self.assertEqual(turned_order(turned_order(w)), w)
        self.assertIs(type(turned_order(w)), tuple)

    def test_the_standard_nest(self):
        for p, n in SMALL + [(13, 6)]:
            self.assertEqual(turned(standard(Ground(p, n))), opposite(Ground(p, n)))


class Coordinates(unittest.TestCase):
    def test_all_rows_of_small_grounds(self):
        for p, n in SMALL[:-1]:
            ground = Ground(p, n)
            for code in brute.all_bases(p, n):
                inside = brute.span(p, n, code)
                for row in brute.rows_of_length(p, n):
                    if row in inside:
                        found = coordinates(ground, code, row)
                        self.assertIs(type(found), tuple)
                        self.assertEqual(len(found), len(code))
                        self.assertEqual(brute.combination(p, n, found, code), row)
                    else:
                        with self.assertRaises(BadRow) as caught:
                            coordinates(ground, code, row)
                        self.assertEqual(caught.exception.path, ())
                    self.assertEqual(short_rest(ground, code, row), short_by_words(p, n, code, row))
                    self.assertIs(type(short_rest(ground, code, row)), tuple)

    def test_equal_short_rests(self):
        for p, n in [(2, 2), (3, 2), (2, 3)]:
            ground = Ground(p, n)
            for code in brute.all_bases(p, n):
                inside = brute.span(p, n, code)
                for one, other in itertools.product(brute.rows_of_length(p, n), repeat=2):
                    equal = short_rest(ground, code, one) == short_rest(ground, code, other)
                    self.assertEqual(equal, brute.plus(p, one, brute.times(p, -1, other)) in inside)

    def test_both_ends(self):
        ground = Ground(13, 6)
        row = (1, 2, 3, 4, 5, 6)
        self.assertEqual(coordinates(ground, ground.units(), row), row)
        self.assertEqual(coordinates(ground, (), ground.zero()), ())
        self.assertEqual(short_rest(ground, (), row), row)
        self.assertEqual(short_rest(ground, ground.units(), row), ())
        with self.assertRaises(BadRow):
            coordinates(ground, (), row)
        self.assertEqual(coordinates(Ground(2, 0), (), ()), ())
        self.assertEqual(short_rest(Ground(2, 0), (), ()), ())

    def test_chosen_ones(self):
        ground, code = Ground(5, 4), ((1, 2, 0, 3), (0, 0, 1, 4))
        self.assertEqual(coordinates(ground, code, (2, 4, 3, 3)), (2, 3))
        self.assertEqual(short_rest(ground, code, (2, 0, 3, 0)), (1, 2))


class Sides(unittest.TestCase):
    def test_all_codes_of_small_grounds(self):
        for p, n in SMALL[:-2]:
            for nest in nests_of_ground(p, n):
                for code in brute.all_bases(p, n):
                    self.check(nest, code)
        for p, n in [(3, 3), (2, 4)]:
            for nest in some_nests(p, n, 8, 5):
                for code in brute.all_bases(p, n)[::3]:
                    self.check(nest, code)

    def check(self, nest, code):
        p, n = nest.ground().p(), nest.ground().n()
        inner, outer = within(nest, code), beyond(nest, code)
        self.assertEqual(inner, Nest(Ground(p, len(code)), within_by_rows(nest, code)))
        self.assertEqual(outer, Nest(Ground(p, n - len(code)), beyond_by_rows(nest, code)))

    def test_both_ends(self):
        for p, n in SMALL + [(13, 6)]:
            ground = Ground(p, n)
            for nest in some_nests(p, n, 3, 6):
                self.assertEqual(within(nest, ()), standard(Ground(p, 0)))
                self.assertEqual(beyond(nest, ()), nest)
                self.assertEqual(within(nest, ground.units()), nest)
                self.assertEqual(beyond(nest, ground.units()), standard(Ground(p, 0)))

    def test_deeds(self):
        kinds = set()
        for p, n in [(2, 2), (3, 2), (2, 3), (2, 4), (13, 6), (2, 6)]:
            nests = some_nests(p, n, 6, 7)
            for f, g in itertools.product(nests, repeat=2):
                for code in some_codes(p, n, n + 1, 8):
                    parts = deeds_apart(within(f, code), within(g, code)) + deeds_apart(beyond(f, code),
                                                                                          beyond(g, code))
                    self.assertLessEqual(parts, deeds_apart(f, g))
                    kinds.add(parts == deeds_apart(f, g))
        self.assertEqual(kinds, {True, False})

    def test_codes_of_both_nests(self):
        for p, n in [(2, 3), (3, 3), (2, 4), (13, 6)]:
            for nest in some_nests(p, n, 4, 9):
                for k in range(n + 1):
                    code = nest.code(k)
                    for other in some_nests(p, n, 3, 10):
                        over = self.made_over(other, code)
                        self.assertEqual(deeds_apart(within(nest, code), within(over, code))
                                         + deeds_apart(beyond(nest, code), beyond(over, code)),
                                         deeds_apart(nest, over))

    def made_over(self, nest, code):
        """Some nest that has a code, from a nest that need not have it."""
        p, n = nest.ground().p(), nest.ground().n()
        rows = list(code)
        for i in range(1, n + 1):
            for row in nest.code(i):
                if len(brute.echelon(p, rows + [row])) > len(rows):
                    rows.append(row)
        return Nest(nest.ground(), [brute.echelon(p, rows[:i]) for i in range(1, n)])

    def test_codes_of_the_nest(self):
        for nest in [F, G, H] + some_nests(13, 6, 2, 11):
            p, n = nest.ground().p(), nest.ground().n()
            for k in range(n + 1):
                code = nest.code(k)
                inner = [brute.echelon(p, [tuple(row[c] for c in columns_of(code)) for row in nest.code(i)])
                         for i in range(1, k)]
                outer = [brute.echelon(p, [short_by_words(p, n, code, row) for row in nest.code(i)])
                         for i in range(k + 1, n)]
                self.assertEqual(within(nest, code).codes(), inner)
                self.assertEqual(beyond(nest, code).codes(), outer)
