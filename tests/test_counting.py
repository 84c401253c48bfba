import itertools
import math
import random
import unittest
from fractions import Fraction

from codenests.counting import (count_at, count_away, count_nests, count_over, mean_away, orders_with, step_count,
                                step_product)
from codenests.differences import order_of
from codenests.errors import BadOrder
from codenests.grounds import Ground
from codenests.nests import Nest, standard
from codenests.parts import Part
from tests import brute
from tests.anything import GREAT, NEGATIVE, deep, no_integers

SIZES = [(2, 0), (3, 0), (2, 1), (5, 1), (2, 2), (3, 2), (13, 2), (2, 3), (3, 3), (5, 3), (2, 4)]


def bracket(p, m):
    return (p ** m - 1) // (p - 1)


class Steps(unittest.TestCase):
    def test_step_count(self):
        for p in [2, 3, 5, 7, 11, 13]:
            for n in [0, 1, 3, 30]:
                for m in [0, 1, 2, 3, 10, 30, 31, 60]:
                    self.assertEqual(step_count(Ground(p, n), m), bracket(p, m))
        self.assertEqual([step_count(Ground(2, 3), m) for m in range(5)], [0, 1, 3, 7, 15])
        self.assertEqual([step_count(Ground(3, 0), m) for m in range(4)], [0, 1, 4, 13])

    def test_step_product(self):
        for p in [2, 3, 13]:
            for n in [0, 1, 3, 30]:
                worth = 1
                for m in range(61):
                    worth *= bracket(p, m) if m > 0 else 1
                    self.assertEqual(step_product(Ground(p, n), m), worth)
        self.assertEqual([step_product(Ground(2, 1), m) for m in range(5)], [1, 1, 3, 21, 315])


class HowManyNests(unittest.TestCase):
    def test_all(self):
        self.assertEqual(count_nests(Ground(2, 3)), 21)
        for p, n in SIZES:
            self.assertEqual(count_nests(Ground(p, n)), len(brute.all_nests(p, n)))

    def test_thirty_columns(self):
        self.assertEqual(count_nests(Ground(13, 30)), math.prod(bracket(13, m) for m in range(1, 31)))


class OrdersWithInversions(unittest.TestCase):
    def test_all_small_orders(self):
        for n in range(8):
            counts = [0] * (n * (n - 1) // 2 + 3)
            for w in itertools.permutations(range(n)):
                counts[brute.count_inversions(w)] += 1
            self.assertEqual([orders_with(n, k) for k in range(len(counts))], counts)

    def test_beyond_the_most_inversions(self):
        for n in [0, 1, 2, 6, 30]:
            most = n * (n - 1) // 2
            self.assertEqual(orders_with(n, most), 1)
            for k in [most + 1, most + 2, 1000, 10 ** 60 - 1]:
                self.assertEqual(orders_with(n, k), 0)

    def test_thirty_numbers(self):
        counts = [orders_with(30, k) for k in range(436)]
        self.assertEqual(counts, counts[::-1])
        self.assertEqual(counts[:3], [1, 29, 434])
        self.assertEqual(sum(counts), math.factorial(30))


class AtAnOrder(unittest.TestCase):
    def test_small_grounds(self):
        for p, n in [(2, 0), (2, 1), (3, 2), (2, 3), (3, 3), (2, 4)]:
            ground = Ground(p, n)
            nests = [Nest(ground, codes) for codes in brute.all_nests(p, n)]
            chosen = nests[len(nests) // 2]
            towards = [order_of(nest, chosen) for nest in nests]
            away = [order_of(chosen, nest) for nest in nests]
            for w in itertools.permutations(range(n)):
                self.assertEqual(count_at(ground, w), towards.count(w))
                self.assertEqual(count_at(ground, w), away.count(w))

    def test_thirty_numbers(self):
        w = tuple(random.Random(75).sample(range(30), 30))
        self.assertEqual(count_at(Ground(13, 30), w), 13 ** brute.count_inversions(w))
        self.assertEqual(count_at(Ground(13, 30), tuple(range(30))[::-1]), 13 ** 435)
        self.assertEqual(count_at(Ground(13, 30), tuple(range(30))), 1)

    def path(self, n, value):
        with self.assertRaises(BadOrder) as caught:
            count_at(Ground(3, n), value)
        self.assertIs(type(caught.exception.path), tuple)
        return caught.exception.path

    def test_no_tuple_of_as_many_members(self):
        for value in no_integers() + NEGATIVE + [0, 3, GREAT, [2, 0, 1], (2, 0), (2, 0, 1, 3), (), {0: 1}, deep(())]:
            self.assertEqual(self.path(3, value), (), repr(value))
        for value in [[], (0,), (None,), None, 0, ((),)]:
            self.assertEqual(self.path(0, value), (), repr(value))

    def test_wrong_members(self):
        for member in no_integers() + NEGATIVE + [4, 5, GREAT, standard(Ground(2, 2))]:
            self.assertEqual(self.path(4, (member, 0, 1, 2)), (0,), repr(member))
            self.assertEqual(self.path(4, (3, 0, member, 2)), (2,), repr(member))
            self.assertEqual(self.path(4, (3, 0, 1, member)), (3,), repr(member))
            self.assertEqual(self.path(4, (3, member, member, 3)), (1,), repr(member))

    def test_members_that_came_before(self):
        self.assertEqual(self.path(4, (3, 0, 3, 2)), (2,))
        self.assertEqual(self.path(4, (1, 1, None, 1)), (1,))
        self.assertEqual(self.path(4, (0, 1, 2, 2)), (3,))
        self.assertEqual(self.path(4, (0, 1, 7, 1)), (2,))
        self.assertEqual(self.path(1, (1,)), (0,))
        self.assertEqual(self.path(2, (0, False)), (1,))
        for many in range(1, 4):
            for value in itertools.product([-1, 0, 1, 2, 3], repeat=many):
                wrong = [k for k in range(many) if not 0 <= value[k] < many or value[k] in value[:k]]
                if wrong:
                    self.assertEqual(self.path(many, value), (wrong[0],), value)
                else:
                    count_at(Ground(3, many), value)


class Away(unittest.TestCase):
    def test_the_example(self):
        self.assertEqual([count_away(Ground(2, 3), deeds) for deeds in range(5)], [1, 4, 8, 8, 0])

    def test_small_grounds(self):
        for p, n in [(2, 0), (5, 0), (3, 1), (2, 2), (3, 2), (2, 3), (3, 3)]:
            ground = Ground(p, n)
            for away in brute.distances(p, n).values():
                for deeds in range(n * (n - 1) // 2 + 3):
                    self.assertEqual(count_away(ground, deeds), list(away.values()).count(deeds))

    def test_all_together(self):
        for p, n in [(2, 6), (13, 6), (3, 30)]:
            ground = Ground(p, n)
            most = n * (n - 1) // 2
            self.assertEqual(sum(count_away(ground, deeds) for deeds in range(most + 1)), count_nests(ground))
            self.assertEqual(count_away(ground, 0), 1)
            self.assertEqual(count_away(ground, 1), p * (n - 1))
            self.assertEqual(count_away(ground, most), p ** most)
            for deeds in [most + 1, most + 100, 10 ** 60 - 1]:
                self.assertEqual(count_away(ground, deeds), 0)


class Over(unittest.TestCase):
    def test_small_grounds(self):
        for p, n in [(2, 0), (3, 1), (3, 2), (2, 3), (3, 3), (2, 4)]:
            ground = Ground(p, n)
            nests = brute.all_nests(p, n)
            for codes in nests[::len(nests) // 8 + 1]:
                for many in range(len(codes) + 1):
                    for chosen in itertools.combinations(codes, many):
                        wanted = sum(set(chosen) <= set(others) for others in nests)
                        self.assertEqual(count_over(Part(ground, chosen)), wanted)

    def test_empty_and_whole_partial_nests(self):
        for p, n in SIZES + [(13, 6)]:
            ground = Ground(p, n)
            self.assertEqual(count_over(Part(ground, [])), count_nests(ground))
            self.assertEqual(count_over(Part(ground, standard(ground).codes())), 1)

    def test_blocks(self):
        codes = standard(Ground(13, 6)).codes()
        self.assertEqual(count_over(Part(Ground(13, 6), [codes[0], codes[3]])), 1 * 14 * 183 * 14)


class Mean(unittest.TestCase):
    def test_small_grounds(self):
        for p, n in [(2, 0), (5, 0), (2, 1), (7, 1), (2, 2), (3, 2), (2, 3), (3, 3)]:
            for away in brute.distances(p, n).values():
                mean = Fraction(sum(away.values()), len(away))
                self.assertEqual(mean_away(Ground(p, n)), (mean.numerator, mean.denominator))

    def test_nought(self):
        for p in [2, 13]:
            for n in [0, 1]:
                self.assertEqual(mean_away(Ground(p, n)), (0, 1))

    def test_known_ones(self):
        self.assertEqual(mean_away(Ground(2, 2)), (2, 3))
        self.assertEqual(mean_away(Ground(2, 3)), (44, 21))
        self.assertEqual(mean_away(Ground(3, 2)), (3, 4))

    def test_by_the_counts(self):
        for p, n in [(2, 6), (13, 6), (3, 17), (13, 30)]:
            ground = Ground(p, n)
            total = sum(deeds * count_away(ground, deeds) for deeds in range(n * (n - 1) // 2 + 1))
            mean = Fraction(total, count_nests(ground))
            found = mean_away(ground)
            self.assertEqual(found, (mean.numerator, mean.denominator))
            self.assertIs(type(found), tuple)
