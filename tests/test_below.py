import itertools
import math
import random
import unittest

from codenests.below import count_below, falling, is_below, orders_below, rising, turned_pairs
from codenests.orders import inversions, stepped, turned_back
from tests import brute


def orders(n):
    return list(itertools.permutations(range(n)))


class RisingAndFalling(unittest.TestCase):
    def test_both(self):
        self.assertEqual((rising(0), falling(0)), ((), ()))
        self.assertEqual((rising(1), falling(1)), ((0,), (0,)))
        self.assertEqual((rising(4), falling(4)), ((0, 1, 2, 3), (3, 2, 1, 0)))
        for n in range(31):
            self.assertEqual(rising(n), tuple(range(n)))
            self.assertEqual(falling(n), tuple(range(n))[::-1])
            self.assertIs(type(rising(n)), tuple)
            self.assertIs(type(falling(n)), tuple)


class TurnedPairs(unittest.TestCase):
    def test_the_example(self):
        self.assertEqual(turned_pairs((2, 0, 3, 1)), [(0, 2), (1, 2), (1, 3)])

    def test_all_small_orders(self):
        for n in range(6):
            for w in orders(n):
                found = turned_pairs(w)
                self.assertEqual(found, sorted(brute.turned(w)))
                self.assertEqual(len(found), inversions(w))
                self.assertIs(type(found), list)

    def test_thirty_numbers(self):
        w = tuple(random.Random(66).sample(range(30), 30))
        self.assertEqual(turned_pairs(w), sorted(brute.turned(w)))
        self.assertEqual(turned_pairs(falling(30)), list(itertools.combinations(range(30), 2)))
        self.assertEqual(turned_pairs(rising(30)), [])
        self.assertEqual(turned_pairs(()), [])
        self.assertEqual(turned_pairs((0,)), [])


class Below(unittest.TestCase):
    def test_the_example(self):
        below = [(0, 1, 2, 3), (0, 2, 1, 3), (0, 2, 3, 1), (2, 0, 1, 3), (2, 0, 3, 1)]
        self.assertEqual(orders_below((2, 0, 3, 1)), below)
        self.assertEqual(count_below((2, 0, 3, 1)), 5)

    def test_is_below_both_ways(self):
        for n in range(5):
            for v, w in itertools.product(orders(n), repeat=2):
                self.assertIs(is_below(v, w), brute.turned(v) <= brute.turned(w), (v, w))

    def test_is_below_with_thirty_numbers(self):
        chance = random.Random(67)
        for _ in range(20):
            w = tuple(chance.sample(range(30), 30))
            steps = [i for i in range(1, 30) if w[i - 1] > w[i]]
            v = stepped(w, chance.choice(steps))
            self.assertEqual((is_below(v, w), is_below(w, v), is_below(w, w)), (True, False, True))
            self.assertEqual((is_below(rising(30), w), is_below(w, falling(30))), (True, True))
            self.assertEqual((is_below(w, rising(30)), is_below(falling(30), w)), (False, False))

    def test_orders_below(self):
        for n in range(6):
            for w in orders(n)[::7 if n == 5 else 1]:
                wanted = [v for v in orders(n) if brute.turned(v) <= brute.turned(w)]
                found = orders_below(w)
                self.assertEqual(found, wanted, w)
                self.assertIs(type(found), list)
                self.assertTrue(all(type(v) is tuple for v in found))
                self.assertEqual(count_below(w), len(wanted))
                self.assertEqual(count_below(turned_back(w)), len(wanted))

    def test_six_numbers(self):
        self.assertEqual(orders_below(falling(6)), orders(6))
        self.assertEqual(orders_below(rising(6)), [rising(6)])
        chance = random.Random(68)
        for _ in range(5):
            w = tuple(chance.sample(range(6), 6))
            self.assertEqual(orders_below(w), [v for v in orders(6) if brute.turned(v) <= brute.turned(w)])

    def test_no_numbers_and_one(self):
        for w in [(), (0,)]:
            self.assertEqual(orders_below(w), [w])
            self.assertEqual(count_below(w), 1)
            self.assertIs(is_below(w, w), True)

    def test_counts_up_to_twelve_numbers(self):
        for n in range(13):
            self.assertEqual(count_below(falling(n)), math.factorial(n))
            self.assertEqual(count_below(rising(n)), 1)
        chance = random.Random(69)
        for n in [6, 7]:
            for _ in range(3):
                w = tuple(chance.sample(range(n), n))
                self.assertEqual(count_below(w), sum(brute.turned(v) <= brute.turned(w) for v in orders(n)))

    def test_counts_of_great_orders_that_are_known(self):
        for n in range(1, 13):
            self.assertEqual(count_below((n - 1,) + rising(n - 1)), n)
            self.assertEqual(count_below(rising(n - 1)[:-1] + (n - 1, n - 2) if n > 1 else (0,)), min(n, 2))
        for a in range(1, 7):
            shifted = tuple(range(a, 2 * a)) + tuple(range(a))
            self.assertEqual(count_below(shifted), math.comb(2 * a, a))
        self.assertEqual(count_below((5, 4, 3, 2, 1, 0, 11, 10, 9, 8, 7, 6)), math.factorial(6) ** 2)
