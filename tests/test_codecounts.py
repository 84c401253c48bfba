import random
import unittest

from codenests.codecounts import (all_codes, code_at, code_number, count_between, count_codes, next_code)
from codenests.codes import check_code, code_of
from codenests.errors import TooGreat
from codenests.grounds import Ground
from tests import brute
from tests.anything import GREAT

PRIMES = [2, 3, 5, 7, 11, 13]
SIZES = [(2, 0), (3, 0), (2, 1), (5, 1), (2, 2), (3, 2), (7, 2), (2, 3), (3, 3), (2, 4)]


def counts_by_the_rule(p, longest):
    """G(n, k) of S2.6 for all n up to the longest, by its first rule."""
    table = {}
    for n in range(longest + 1):
        for k in range(n + 1):
            if k in (0, n):
                table[n, k] = 1
            else:
                table[n, k] = table[n - 1, k - 1] + p ** k * table[n - 1, k]
    return table


def in_order(p, n, rank):
    return sorted((base for base in brute.all_bases(p, n) if len(base) == rank), key=brute.order_key)


class Counting(unittest.TestCase):
    def test_the_rule(self):
        for p in PRIMES:
            for (n, k), wanted in counts_by_the_rule(p, 30).items():
                self.assertEqual(count_codes(Ground(p, n), k), wanted, (p, n, k))

    def test_ranks_above_n(self):
        for n in [0, 1, 2, 6, 30]:
            for rank in [n + 1, n + 2, 2 * n + 1, 1000, GREAT]:
                self.assertEqual(count_codes(Ground(3, n), rank), 0)

    def test_small_grounds(self):
        for p, n in SIZES:
            bases = brute.all_bases(p, n)
            for rank in range(n + 2):
                self.assertEqual(count_codes(Ground(p, n), rank), sum(len(base) == rank for base in bases))

    def test_between(self):
        for p, n in [(2, 0), (3, 1), (3, 2), (2, 3)]:
            ground = Ground(p, n)
            spans = [(base, brute.span(p, n, base)) for base in brute.all_bases(p, n)]
            for low, rows in spans:
                for high, more in spans:
                    for rank in range(n + 2):
                        wanted = sum(rows <= middle <= more and len(base) == rank for base, middle in spans)
                        self.assertEqual(count_between(ground, low, high, rank), wanted, (low, high, rank))

    def test_between_in_long_rows(self):
        ground = Ground(5, 30)
        units = ground.units()
        table = counts_by_the_rule(5, 20)
        for rank in range(32):
            wanted = table[20, rank - 4] if 4 <= rank <= 24 else 0
            self.assertEqual(count_between(ground, units[:4], units[:24], rank), wanted)
            self.assertEqual(count_between(ground, units[:4], units[1:24], rank), 0)
            self.assertEqual(count_between(ground, (), units, rank), count_codes(ground, rank))
            self.assertEqual(count_between(ground, units[:7], units[:7], rank), int(rank == 7))
        self.assertEqual(count_between(ground, (), units, GREAT), 0)
        self.assertEqual(count_between(ground, units, (), 15), 0)


class Numbering(unittest.TestCase):
    def test_the_example(self):
        wanted = [((1, 0, 0), (0, 1, 0)), ((1, 0, 0), (0, 1, 1)), ((1, 0, 1), (0, 1, 0)), ((1, 0, 1), (0, 1, 1)),
                  ((1, 0, 0), (0, 0, 1)), ((1, 1, 0), (0, 0, 1)), ((0, 1, 0), (0, 0, 1))]
        ground = Ground(2, 3)
        self.assertEqual(all_codes(ground, 2), wanted)
        self.assertEqual([code_at(ground, 2, number) for number in range(7)], wanted)
        self.assertEqual([code_number(ground, code) for code in wanted], list(range(7)))
        self.assertEqual([next_code(ground, code) for code in wanted], wanted[1:] + [None])

    def test_all_codes_in_order(self):
        for p, n in SIZES:
            ground = Ground(p, n)
            for rank in range(n + 1):
                wanted = in_order(p, n, rank)
                self.assertEqual(all_codes(ground, rank), wanted)
                for number, code in enumerate(wanted):
                    self.assertEqual(code_at(ground, rank, number), code)
                    self.assertEqual(code_number(ground, code), number)
                    later = wanted[number + 1] if number + 1 < len(wanted) else None
                    self.assertEqual(next_code(ground, code), later)

    def test_ranks_above_n_have_no_codes(self):
        for p, n in SIZES:
            for rank in [n + 1, n + 2, GREAT]:
                self.assertEqual(all_codes(Ground(p, n), rank), [])
                for number in [0, 1, GREAT]:
                    with self.assertRaises(TooGreat):
                        code_at(Ground(p, n), rank, number)

    def test_greater_grounds(self):
        for p, n, rank in [(3, 4, 2), (2, 5, 2), (2, 6, 3), (13, 3, 1), (13, 3, 2), (5, 4, 1)]:
            ground = Ground(p, n)
            codes = all_codes(ground, rank)
            self.assertEqual(len(codes), count_codes(ground, rank))
            keys = [brute.order_key(code) for code in codes]
            self.assertTrue(all(one < other for one, other in zip(keys, keys[1:])))
            for number in range(0, len(codes), 17):
                self.assertEqual(code_at(ground, rank, number), codes[number])
                self.assertEqual(code_number(ground, codes[number]), number)

    def test_the_first_and_the_last_number(self):
        for p, n in SIZES + [(13, 6), (2, 30), (13, 30)]:
            ground = Ground(p, n)
            units = ground.units()
            for rank in range(n + 1):
                many = count_codes(ground, rank)
                last = units[n - rank:]
                self.assertEqual(code_at(ground, rank, 0), units[:rank])
                self.assertEqual(code_number(ground, units[:rank]), 0)
                self.assertEqual(code_at(ground, rank, many - 1), last)
                self.assertEqual(code_number(ground, last), many - 1)
                self.assertIsNone(next_code(ground, last))
                for number in [many, many + 1, many * 1000]:
                    with self.assertRaises(TooGreat):
                        code_at(ground, rank, number)

    def test_long_rows(self):
        chance = random.Random(31)
        for p, n in [(2, 30), (3, 17), (13, 30)]:
            ground = Ground(p, n)
            for rank in [1, 2, 5, n // 2, n - 3, n - 1]:
                many = count_codes(ground, rank)
                # Those with the first pivots are most by far, so half of the
                # numbers are taken from the few at the end.
                picked = [chance.randrange(many) for _ in range(3)]
                picked += [many - 2 - chance.randrange(p ** 6) % (many - 1) for _ in range(3)]
                for number in picked:
                    code = code_at(ground, rank, number)
                    self.assertIsNone(check_code(ground, code))
                    self.assertEqual(len(code), rank)
                    self.assertEqual(code_number(ground, code), number)
                    if number + 1 < many:
                        later = next_code(ground, code)
                        self.assertEqual(code_number(ground, later), number + 1)
                        self.assertLess(brute.order_key(code), brute.order_key(later))

    def test_codes_of_long_rows(self):
        chance = random.Random(32)
        ground = Ground(3, 30)
        for rank in [1, 4, 15, 29]:
            for zeros in [0, 2, 9]:
                rows = [(0,) * min(zeros, 30 - rank) + tuple(chance.randrange(3) for _ in range(30))
                        for _ in range(rank)]
                code = code_of(ground, [row[:30] for row in rows])
                number = code_number(ground, code)
                self.assertTrue(0 <= number < count_codes(ground, len(code)))
                self.assertEqual(code_at(ground, len(code), number), code)
