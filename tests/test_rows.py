import itertools
import random
import unittest

from codenests.errors import BadRow, TooGreat
from codenests.grounds import Ground
from codenests.rows import (added, all_rows, check_row, combined, dot, pivot, row_at, row_number, scaled,
                            subtracted)
from tests import brute
from tests.anything import GREAT, NEGATIVE, no_integers

SIZES = [(2, 0), (2, 1), (2, 3), (3, 0), (3, 2), (5, 2), (13, 1)]


class Checking(unittest.TestCase):
    def path_of(self, ground, value):
        with self.assertRaises(BadRow) as caught:
            check_row(ground, value)
        return caught.exception.path

    def test_all_rows_are_rows(self):
        for p, n in SIZES:
            for row in brute.rows_of_length(p, n):
                self.assertIsNone(check_row(Ground(p, n), row))

    def test_no_tuple_of_n_members(self):
        ground = Ground(3, 2)
        for value in no_integers() + NEGATIVE + [0, 1, GREAT, [0, 1], [1, 2], (1, 2, 0), (1,), (), "ab"]:
            if not (isinstance(value, tuple) and len(value) == 2):
                self.assertEqual(self.path_of(ground, value), (), repr(value))
        for value in [None, [], "", {}, (0,), 0, ((),)]:
            self.assertEqual(self.path_of(Ground(3, 0), value), ())

    def test_the_first_wrong_member(self):
        ground = Ground(3, 3)
        for wrong in [3, 4, GREAT] + NEGATIVE + no_integers():
            self.assertEqual(self.path_of(ground, (wrong, 0, 0)), (0,))
            self.assertEqual(self.path_of(ground, (1, wrong, 2)), (1,))
            self.assertEqual(self.path_of(ground, (1, 2, wrong)), (2,))
            self.assertEqual(self.path_of(ground, (1, wrong, wrong)), (1,))
            self.assertEqual(self.path_of(ground, (wrong, None, wrong)), (0,))
            self.assertEqual(self.path_of(ground, (wrong, 0)), ())

    def test_numbers_hang_on_the_prime(self):
        for p in [2, 3, 5, 13]:
            self.assertIsNone(check_row(Ground(p, 1), (p - 1,)))
            self.assertEqual(self.path_of(Ground(p, 1), (p,)), (0,))


class Reckoning(unittest.TestCase):
    def test_sums_and_differences(self):
        for p, n in [(2, 2), (3, 2), (5, 1), (2, 0)]:
            ground = Ground(p, n)
            for one in brute.rows_of_length(p, n):
                for other in brute.rows_of_length(p, n):
                    total = added(ground, one, other)
                    self.assertEqual(total, tuple((a + b) % p for a, b in zip(one, other)))
                    self.assertEqual(subtracted(ground, total, other), one)
                    less = subtracted(ground, one, other)
                    self.assertEqual(less, tuple((a - b) % p for a, b in zip(one, other)))

    def test_multiples(self):
        for p, n in SIZES:
            ground = Ground(p, n)
            for number in range(p):
                for row in brute.rows_of_length(p, n):
                    self.assertEqual(scaled(ground, number, row), tuple(number * a % p for a in row))

    def test_products(self):
        for p, n in [(2, 3), (3, 2), (7, 1), (2, 0)]:
            ground = Ground(p, n)
            for one in brute.rows_of_length(p, n):
                for other in brute.rows_of_length(p, n):
                    self.assertEqual(dot(ground, one, other), sum(a * b for a, b in zip(one, other)) % p)

    def test_results_are_plain_tuples_of_numbers(self):
        ground = Ground(5, 2)
        for row in [added(ground, (4, 4), (4, 1)), subtracted(ground, (0, 1), (4, 4)), scaled(ground, 4, (4, 2)),
                    combined(ground, [4, 4], [(4, 4), (3, 1)])]:
            self.assertIs(type(row), tuple)
            self.assertTrue(all(type(entry) is int and 0 <= entry < 5 for entry in row))

    def test_combinations(self):
        chance = random.Random(11)
        for p, n in SIZES + [(13, 6), (5, 4)]:
            ground = Ground(p, n)
            for many in [1, 2, 3, 7, 30]:
                rows = [tuple(chance.randrange(p) for _ in range(n)) for _ in range(many)]
                numbers = [chance.randrange(p) for _ in range(many)]
                wanted = brute.combination(p, n, numbers, rows)
                self.assertEqual(combined(ground, numbers, rows), wanted)
                self.assertEqual(combined(ground, tuple(numbers), tuple(rows)), wanted)

    def test_combinations_of_no_rows(self):
        for p, n in SIZES:
            self.assertEqual(combined(Ground(p, n), [], []), (0,) * n)
            self.assertEqual(combined(Ground(p, n), (), ()), (0,) * n)

    def test_pivots(self):
        self.assertIsNone(pivot(()))
        self.assertIsNone(pivot((0,)))
        self.assertIsNone(pivot((0, 0, 0)))
        self.assertEqual(pivot((1, 0, 0)), 0)
        self.assertEqual(pivot((4, 2, 1)), 0)
        self.assertEqual(pivot((0, 12, 0)), 1)
        self.assertEqual(pivot((0, 0, 3)), 2)
        for row in itertools.product(range(3), repeat=4):
            self.assertEqual(pivot(row), brute.first_entry(row))


class Numbering(unittest.TestCase):
    def test_the_example(self):
        self.assertEqual(row_at(Ground(2, 4), 5), (0, 1, 0, 1))
        self.assertEqual(row_number(Ground(2, 4), (0, 1, 0, 1)), 5)

    def test_there_and_back(self):
        for p, n in SIZES:
            ground = Ground(p, n)
            rows = brute.rows_of_length(p, n)
            self.assertEqual(all_rows(ground), rows)
            for number, row in enumerate(rows):
                self.assertEqual(row_at(ground, number), row)
                self.assertEqual(row_number(ground, row), number)

    def test_the_first_number_beyond(self):
        for p, n in SIZES + [(13, 6)]:
            ground = Ground(p, n)
            self.assertEqual(row_at(ground, p ** n - 1), (p - 1,) * n)
            self.assertEqual(row_number(ground, (p - 1,) * n), p ** n - 1)
            for number in [p ** n, p ** n + 1, GREAT]:
                with self.assertRaises(TooGreat):
                    row_at(ground, number)

    def test_long_rows(self):
        ground = Ground(13, 30)
        row = tuple(range(13)) + (0,) * 16 + (5,)
        self.assertEqual(row_at(ground, row_number(ground, row)), row)
        self.assertEqual(row_number(ground, (0,) * 28 + (2, 3)), 29)

    def test_no_columns(self):
        ground = Ground(5, 0)
        self.assertEqual(all_rows(ground), [()])
        self.assertEqual(row_at(ground, 0), ())
        self.assertEqual(row_number(ground, ()), 0)

    def test_all_rows_ascend(self):
        rows = all_rows(Ground(11, 3))
        self.assertEqual(len(rows), 1331)
        self.assertEqual(rows, sorted(set(rows)))
