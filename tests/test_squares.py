import itertools
import random
import unittest

from codenests.grounds import Ground
from codenests.squares import (determinant, inverse, judge_relation, product, rank, reduced, relation, solve)
from tests import brute
from tests.anything import GREAT, NEGATIVE, no_integers


def lists_of_rows():
    """Pairs of a ground and a list: all short ones of small grounds, and chosen ones."""
    found = []
    for p, n, longest in [(2, 0, 3), (2, 1, 3), (2, 2, 3), (2, 3, 2), (3, 1, 3), (3, 2, 2), (5, 1, 2)]:
        for many in range(longest + 1):
            for rows in itertools.product(brute.rows_of_length(p, n), repeat=many):
                found.append((p, n, list(rows)))
    chance = random.Random(5)
    for p, n in [(2, 3), (2, 4), (3, 3), (5, 3), (7, 2), (13, 2)]:
        for many in [0, 1, 2, 3, 4, 5, 30]:
            for _ in range(6):
                rows = [tuple(chance.randrange(p) for _ in range(n)) for _ in range(many)]
                found.append((p, n, rows))
                found.append((p, n, rows[:2] + [(0,) * n] + rows[1:]))
    return found


LISTS = lists_of_rows()


def random_rows(chance, p, n, many):
    return [tuple(chance.randrange(p) for _ in range(n)) for _ in range(many)]


def lower_rank_rows(chance, p, n, many, rank):
    """Many rows that hang on some few."""
    few = random_rows(chance, p, n, rank)
    return [brute.combination(p, n, [chance.randrange(p) for _ in few], few) for _ in range(many)]


class Reducing(unittest.TestCase):
    def test_the_example(self):
        self.assertEqual(reduced(Ground(3, 3), [(1, 2, 0), (2, 1, 1)]), ((1, 2, 0), (0, 0, 1)))

    def test_reduced_bases(self):
        for p, n, rows in LISTS:
            wanted = brute.base_of_span(brute.span(p, n, rows))
            self.assertEqual(reduced(Ground(p, n), rows), wanted, (p, n, rows))
            self.assertEqual(reduced(Ground(p, n), tuple(rows)), wanted)

    def test_no_rows_and_the_zero_row(self):
        for p, n in [(2, 0), (3, 1), (5, 4)]:
            self.assertEqual(reduced(Ground(p, n), []), ())
            self.assertEqual(reduced(Ground(p, n), [(0,) * n]), ())
            self.assertEqual(reduced(Ground(p, n), [(0,) * n] * 30), ())

    def test_it_is_the_same_for_the_rows_in_another_sequence(self):
        chance = random.Random(6)
        for p in [2, 3, 13]:
            for many in [2, 5, 12, 30]:
                rows = lower_rank_rows(chance, p, 6, many, 4)
                base = reduced(Ground(p, 6), rows)
                mixed = list(rows)
                chance.shuffle(mixed)
                self.assertEqual(reduced(Ground(p, 6), mixed + [mixed[0]]), base)
                self.assertEqual(reduced(Ground(p, 6), base), base)

    def test_ranks(self):
        for p, n, rows in LISTS:
            wanted = brute.rank_of_span(p, brute.span(p, n, rows))
            self.assertEqual(rank(Ground(p, n), rows), wanted, (p, n, rows))

    def test_ranks_of_long_lists(self):
        chance = random.Random(7)
        for p in [2, 5, 13]:
            for wanted in range(7):
                units = Ground(p, 6).units()[:wanted]
                rows = [brute.combination(p, 6, [chance.randrange(p) for _ in units], units) for _ in range(24)]
                self.assertEqual(rank(Ground(p, 6), rows + list(units)), wanted)


class Relations(unittest.TestCase):
    def test_relations(self):
        for p, n, rows in LISTS:
            ground = Ground(p, n)
            found = relation(ground, rows)
            if p ** len(rows) == len(brute.span(p, n, rows)):
                self.assertIsNone(found, (p, n, rows))
            else:
                self.assertIs(type(found), tuple)
                self.assertEqual(len(found), len(rows))
                self.assertTrue(all(type(k) is int and 0 <= k < p for k in found))
                self.assertTrue(any(found))
                self.assertEqual(brute.combination(p, n, found, rows), (0,) * n)
                self.assertIs(judge_relation(ground, rows, found), True)

    def test_long_lists(self):
        chance = random.Random(8)
        for p in [2, 3, 13]:
            for many in [7, 15, 30]:
                rows = random_rows(chance, p, 6, many)
                found = relation(Ground(p, 6), rows)
                self.assertTrue(any(found))
                self.assertEqual(brute.combination(p, 6, found, rows), (0,) * 6)

    def test_no_rows(self):
        for n in [0, 1, 4]:
            self.assertIsNone(relation(Ground(2, n), []))
            self.assertIs(judge_relation(Ground(2, n), [], ()), False)

    def test_rows_of_no_columns(self):
        self.assertEqual(relation(Ground(2, 0), [()]), (1,))
        self.assertIs(judge_relation(Ground(3, 0), [(), ()], (0, 2)), True)
        self.assertIs(judge_relation(Ground(3, 0), [(), ()], (0, 0)), False)

    def test_all_values_of_a_list(self):
        for p, n, rows in [(2, 2, [(1, 0), (1, 1), (0, 1)]), (3, 2, [(1, 2), (2, 1), (0, 0)]),
                           (3, 1, [(1,), (1,)]), (5, 2, [(1, 0), (0, 1)])]:
            for numbers in itertools.product(range(p), repeat=len(rows)):
                wanted = any(numbers) and not any(brute.combination(p, n, numbers, rows))
                self.assertIs(judge_relation(Ground(p, n), rows, numbers), wanted)
                self.assertIs(judge_relation(Ground(p, n), tuple(rows), numbers), wanted)

    def test_what_is_no_relation(self):
        ground = Ground(3, 2)
        rows = [(1, 0), (1, 0), (2, 0)]
        self.assertIs(judge_relation(ground, rows, (1, 0, 1)), True)
        self.assertIs(judge_relation(ground, rows, (1, 2, 0)), True)
        for value in [[1, 0, 1], (1, 0, 1, 0), (1, 0), (0, 0, 0), (1, 0, 4), (-2, 0, 1), (4, 0, 1), (True, 0, 1),
                      (1, False, 1), (1, None, 1), (1, (), 1), ((1,), 0, 1), "101", (1, 0, "1"), (1, 0, GREAT)]:
            self.assertIs(judge_relation(ground, rows, value), False, repr(value))
        for value in no_integers() + NEGATIVE + [0, 1, GREAT]:
            self.assertIs(judge_relation(ground, rows, value), False, repr(value))

    def test_members_of_all_kinds(self):
        ground = Ground(3, 2)
        for value in no_integers() + NEGATIVE + [3, GREAT]:
            self.assertIs(judge_relation(ground, [(0, 0)], (value,)), False, repr(value))
            self.assertIs(judge_relation(ground, [(0, 0), (0, 0)], (1, value)), False, repr(value))
            self.assertIs(judge_relation(ground, [(0, 0), (0, 0)], (value, 1)), False, repr(value))
        for number in [1, 2]:
            self.assertIs(judge_relation(ground, [(0, 0)], (number,)), True)

    def test_numbers_of_the_ground_alone(self):
        self.assertIs(judge_relation(Ground(2, 1), [(0,)], (1,)), True)
        self.assertIs(judge_relation(Ground(2, 1), [(0,)], (2,)), False)
        self.assertIs(judge_relation(Ground(3, 1), [(0,)], (2,)), True)
        self.assertIs(judge_relation(Ground(3, 1), [(0,)], (3,)), False)


class Solving(unittest.TestCase):
    def check(self, p, n, rows, row, found):
        self.assertIs(type(found), tuple)
        self.assertEqual(len(found), len(rows))
        self.assertTrue(all(type(k) is int and 0 <= k < p for k in found))
        self.assertEqual(brute.combination(p, n, found, rows), row)

    def test_all_rows(self):
        for p, n, rows in LISTS[::7]:
            span = brute.span(p, n, rows)
            for row in brute.rows_of_length(p, n)[:60]:
                found = solve(Ground(p, n), rows, row)
                if row in span:
                    self.check(p, n, rows, row, found)
                else:
                    self.assertIsNone(found, (p, n, rows, row))

    def test_no_rows(self):
        self.assertEqual(solve(Ground(2, 0), [], ()), ())
        self.assertEqual(solve(Ground(2, 2), [], (0, 0)), ())
        self.assertIsNone(solve(Ground(2, 2), [], (0, 1)))
        self.check(3, 0, [(), ()], (), solve(Ground(3, 0), [(), ()], ()))

    def test_long_lists(self):
        chance = random.Random(9)
        for p in [2, 7, 13]:
            for many in [1, 6, 30]:
                rows = random_rows(chance, p, 6, many)
                row = brute.combination(p, 6, [chance.randrange(p) for _ in rows], rows)
                self.check(p, 6, rows, row, solve(Ground(p, 6), rows, row))
                self.check(p, 6, rows, row, solve(Ground(p, 6), tuple(rows), row))
                flat = [one[:5] + (0,) for one in rows]
                self.assertIsNone(solve(Ground(p, 6), flat, row[:5] + (1,)))


class Squares(unittest.TestCase):
    def test_products(self):
        chance = random.Random(10)
        for p, n in [(2, 0), (3, 1), (2, 2), (5, 3), (13, 6)]:
            ground = Ground(p, n)
            for _ in range(20):
                one = tuple(random_rows(chance, p, n, n))
                other = tuple(random_rows(chance, p, n, n))
                wanted = tuple(tuple(sum(one[i][k] * other[k][j] for k in range(n)) % p for j in range(n))
                               for i in range(n))
                self.assertEqual(product(ground, one, other), wanted)
                self.assertEqual(product(ground, one, ground.units()), one)
                self.assertEqual(product(ground, ground.units(), one), one)

    def test_the_sequence_of_a_product(self):
        self.assertEqual(product(Ground(2, 2), ((1, 1), (0, 1)), ((0, 1), (1, 0))), ((1, 1), (1, 0)))
        self.assertEqual(product(Ground(2, 2), ((0, 1), (1, 0)), ((1, 1), (0, 1))), ((0, 1), (1, 1)))

    def test_inverses_of_all_squares(self):
        for p, n in [(2, 0), (2, 1), (5, 1), (2, 2), (3, 2), (2, 3)]:
            ground = Ground(p, n)
            for square in itertools.product(brute.rows_of_length(p, n), repeat=n):
                found = inverse(ground, square)
                if len(brute.span(p, n, square)) < p ** n:
                    self.assertIsNone(found, square)
                else:
                    self.assertIs(type(found), tuple)
                    self.assertEqual(product(ground, square, found), ground.units())
                    self.assertEqual(product(ground, found, square), ground.units())

    def test_inverses_of_great_squares(self):
        chance = random.Random(12)
        for p in [2, 3, 13]:
            ground = Ground(p, 6)
            for _ in range(30):
                square = tuple(random_rows(chance, p, 6, 6))
                found = inverse(ground, square)
                if found is None:
                    self.assertEqual(brute.laplace(p, square), 0)
                else:
                    self.assertEqual(product(ground, square, found), ground.units())
                singular = square[:5] + (brute.combination(p, 6, [1, p - 1, 1, 0, 1], square[:5]),)
                self.assertIsNone(inverse(ground, singular))


class Determinants(unittest.TestCase):
    def test_no_columns(self):
        for p in [2, 3, 13]:
            self.assertEqual(determinant(Ground(p, 0), ()), 1)

    def test_all_squares(self):
        for p, n in [(2, 1), (7, 1), (2, 2), (3, 2), (2, 3)]:
            for square in itertools.product(brute.rows_of_length(p, n), repeat=n):
                self.assertEqual(determinant(Ground(p, n), square), brute.laplace(p, square), square)

    def test_great_squares(self):
        chance = random.Random(13)
        for p in [2, 3, 5, 13]:
            for n in [3, 4, 5, 6]:
                for _ in range(15):
                    square = tuple(random_rows(chance, p, n, n))
                    self.assertEqual(determinant(Ground(p, n), square), brute.laplace(p, square), square)
                    flat = tuple(row[:-1] + (0,) for row in square)
                    self.assertEqual(determinant(Ground(p, n), flat), 0)
                    self.assertEqual(determinant(Ground(p, n), square[:-1] + square[:1]), 0)

    def test_squares_with_many_zeros(self):
        for p in [3, 5]:
            units = Ground(p, 4).units()
            for order in itertools.permutations(range(4)):
                square = tuple(units[k] for k in order)
                self.assertEqual(determinant(Ground(p, 4), square), brute.laplace(p, square))

    def test_it_goes_with_products(self):
        chance = random.Random(14)
        ground = Ground(11, 4)
        for _ in range(20):
            one = tuple(random_rows(chance, 11, 4, 4))
            other = tuple(random_rows(chance, 11, 4, 4))
            both = determinant(ground, one) * determinant(ground, other) % 11
            self.assertEqual(determinant(ground, product(ground, one, other)), both)
