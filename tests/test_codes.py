import itertools
import random
import unittest

from codenests.codes import (check_code, code_of, is_in, is_within, pivots, rest, row_outside, rows_of)
from codenests.errors import BadCode
from codenests.grounds import Ground
from tests import brute
from tests.anything import GREAT, NEGATIVE, no_integers

SIZES = [(2, 0), (2, 1), (2, 2), (2, 3), (3, 0), (3, 1), (3, 2), (5, 2), (3, 3)]


class Checking(unittest.TestCase):
    def path_of(self, ground, value):
        with self.assertRaises(BadCode) as caught:
            check_code(ground, value)
        return caught.exception.path

    def test_all_codes_are_codes(self):
        for p, n in SIZES:
            for base in brute.all_bases(p, n):
                self.assertIsNone(check_code(Ground(p, n), base))

    def test_all_tuples_of_rows(self):
        for p, n in [(2, 0), (2, 1), (2, 2), (3, 2), (2, 3)]:
            ground = Ground(p, n)
            bases = set(brute.all_bases(p, n))
            for many in range(n + 1):
                for value in itertools.product(brute.rows_of_length(p, n), repeat=many):
                    if value in bases:
                        self.assertIsNone(check_code(ground, value))
                    else:
                        # All rows ahead of the wrong one are a code, and with it they are none.
                        first = next(k for k in range(many) if value[:k + 1] not in bases)
                        self.assertEqual(self.path_of(ground, value), (first,), value)

    def test_no_tuple_or_too_long(self):
        ground = Ground(2, 2)
        for value in no_integers() + NEGATIVE + [0, 1, GREAT]:
            if not isinstance(value, tuple):
                self.assertEqual(self.path_of(ground, value), (), repr(value))
        self.assertEqual(self.path_of(ground, [(1, 0), (0, 1)]), ())
        self.assertEqual(self.path_of(ground, [(1, 0)]), ())
        self.assertEqual(self.path_of(ground, []), ())
        self.assertEqual(self.path_of(ground, ((1, 0), (0, 1), (0, 0))), ())
        self.assertEqual(self.path_of(ground, (None, None, None)), ())
        self.assertEqual(self.path_of(Ground(2, 0), ((),)), ())
        self.assertEqual(self.path_of(Ground(2, 0), []), ())
        self.assertEqual(self.path_of(Ground(2, 1), ((1,), (0,))), ())

    def test_a_member_is_no_tuple_of_n_members(self):
        ground = Ground(3, 2)
        for wrong in no_integers() + NEGATIVE + [0, [1, 0], (1, 0, 0), (1,)]:
            if not (isinstance(wrong, tuple) and len(wrong) == 2):
                self.assertEqual(self.path_of(ground, (wrong,)), (0,), repr(wrong))
                self.assertEqual(self.path_of(ground, ((1, 0), wrong)), (1,), repr(wrong))
                self.assertEqual(self.path_of(ground, (wrong, (5, 5))), (0,), repr(wrong))

    def test_an_entry_is_no_number_of_the_ground(self):
        ground = Ground(3, 3)
        for wrong in no_integers() + NEGATIVE + [3, 4, GREAT]:
            self.assertEqual(self.path_of(ground, ((wrong, 0, 0),)), (0, 0), repr(wrong))
            self.assertEqual(self.path_of(ground, ((1, wrong, wrong),)), (0, 1), repr(wrong))
            self.assertEqual(self.path_of(ground, ((1, 0, 0), (0, 1, wrong))), (1, 2), repr(wrong))
            self.assertEqual(self.path_of(ground, ((1, 0, wrong), (0, 1))), (0, 2), repr(wrong))
            self.assertEqual(self.path_of(ground, ((1, 0), (0, 1, wrong))), (0,), repr(wrong))

    def test_members_are_looked_at_ahead_of_the_base(self):
        ground = Ground(3, 2)
        self.assertEqual(self.path_of(ground, ((0, 0), (0, 3))), (1, 1))
        self.assertEqual(self.path_of(ground, ((0, 0), None)), (1,))
        self.assertEqual(self.path_of(ground, ((2, 0), (0, True))), (1, 1))
        self.assertEqual(self.path_of(ground, ((0, 0), (0, 2))), (0,))

    def test_what_is_no_reduced_base(self):
        ground = Ground(3, 3)
        for path, value in [
                ((0,), ((0, 0, 0),)), ((1,), ((1, 0, 0), (0, 0, 0))), ((0,), ((2, 0, 0),)), ((0,), ((0, 0, 2),)),
                ((1,), ((1, 0, 0), (0, 2, 0))), ((1,), ((0, 1, 0), (1, 0, 0))), ((1,), ((0, 1, 0), (0, 1, 0))),
                ((1,), ((1, 2, 0), (0, 1, 0))), ((2,), ((1, 0, 2), (0, 1, 0), (0, 0, 1))),
                ((2,), ((1, 0, 0), (0, 1, 1), (0, 0, 1))), ((0,), ((2, 0, 0), (0, 0, 0), (0, 0, 0)))]:
            self.assertEqual(self.path_of(ground, value), path, value)


class Codes(unittest.TestCase):
    def test_code_of(self):
        chance = random.Random(21)
        for p, n in SIZES:
            rows = brute.rows_of_length(p, n)
            for many in [0, 1, 2, 3, 8, 30]:
                chosen = [chance.choice(rows) for _ in range(many)]
                wanted = brute.base_of_span(brute.span(p, n, chosen))
                self.assertEqual(code_of(Ground(p, n), chosen), wanted)
                self.assertEqual(code_of(Ground(p, n), tuple(chosen)), wanted)

    def test_code_of_all_and_of_no_rows(self):
        for p, n in SIZES:
            ground = Ground(p, n)
            self.assertEqual(code_of(ground, []), ())
            self.assertEqual(code_of(ground, [ground.zero()]), ())
            self.assertEqual(code_of(ground, ground.units()[::-1]), ground.units())

    def test_pivots(self):
        self.assertEqual(pivots(()), ())
        self.assertEqual(pivots(((0, 1, 0, 2), (0, 0, 1, 1))), (1, 2))
        self.assertEqual(pivots(Ground(5, 4).units()), (0, 1, 2, 3))
        for p, n in SIZES:
            for base in brute.all_bases(p, n):
                self.assertEqual(pivots(base), tuple(brute.first_entry(row) for row in base))


class Members(unittest.TestCase):
    def test_rests(self):
        for p, n in SIZES[:-1]:
            ground = Ground(p, n)
            for base in brute.all_bases(p, n):
                rows = brute.span(p, n, base)
                columns = [brute.first_entry(row) for row in base]
                for row in brute.rows_of_length(p, n):
                    left = rest(ground, base, row)
                    self.assertTrue(all(left[column] == 0 for column in columns))
                    self.assertTrue(all(type(k) is int and 0 <= k < p for k in left))
                    taken = tuple((a - b) % p for a, b in zip(row, left))
                    self.assertIn(taken, rows)
                    self.assertIs(is_in(ground, base, row), row in rows)
                    self.assertEqual(left == ground.zero(), row in rows)

    def test_the_code_of_zero_and_the_code_of_all(self):
        ground = Ground(5, 3)
        self.assertEqual(rest(ground, (), (1, 2, 3)), (1, 2, 3))
        self.assertEqual(rest(ground, ground.units(), (1, 2, 3)), (0, 0, 0))
        self.assertIs(is_in(ground, (), (0, 0, 0)), True)
        self.assertIs(is_in(ground, (), (0, 0, 1)), False)
        self.assertIs(is_in(ground, ground.units(), (4, 4, 4)), True)
        self.assertEqual(rest(Ground(2, 0), (), ()), ())
        self.assertIs(is_in(Ground(2, 0), (), ()), True)

    def test_within_and_outside(self):
        for p, n in [(2, 0), (2, 1), (2, 2), (2, 3), (3, 2), (5, 2), (3, 3)]:
            ground = Ground(p, n)
            spans = [(base, brute.span(p, n, base)) for base in brute.all_bases(p, n)]
            for one, rows in spans:
                for other, more in spans:
                    self.assertIs(is_within(ground, one, other), rows <= more)
                    found = row_outside(ground, one, other)
                    if rows <= more:
                        self.assertIsNone(found)
                    else:
                        self.assertIn(found, rows)
                        self.assertNotIn(found, more)

    def test_great_codes(self):
        ground = Ground(13, 6)
        low = code_of(ground, [(1, 2, 3, 4, 5, 6), (0, 1, 1, 1, 1, 1)])
        high = code_of(ground, list(low) + [(0, 0, 0, 7, 0, 2), (1, 1, 1, 1, 1, 1)])
        self.assertEqual((len(low), len(high)), (2, 4))
        self.assertIs(is_within(ground, low, high), True)
        self.assertIs(is_within(ground, high, low), False)
        self.assertIsNone(row_outside(ground, low, high))
        found = row_outside(ground, high, low)
        self.assertTrue(is_in(ground, high, found) and not is_in(ground, low, found))

    def test_rows_of(self):
        for p, n in SIZES:
            for base in brute.all_bases(p, n):
                self.assertEqual(rows_of(Ground(p, n), base), sorted(brute.span(p, n, base)))

    def test_rows_of_the_ends(self):
        self.assertEqual(rows_of(Ground(2, 0), ()), [()])
        self.assertEqual(rows_of(Ground(3, 4), ()), [(0, 0, 0, 0)])
        self.assertEqual(rows_of(Ground(11, 3), Ground(11, 3).units()), brute.rows_of_length(11, 3))
