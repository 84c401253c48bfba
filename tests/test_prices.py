import itertools
import random
import unittest

from codenests.below import falling, rising
from codenests.levelrows import first_row, is_plain, row_at, row_number
from codenests.orders import inversions
from codenests.prices import cheapest, greatest_price, least_price, price_of
from tests import brute

DEAR = 10 ** 12


def some_prices(many, chance):
    """Lists of prices: equal ones, noughts, great ones, and others."""
    return [[0] * many, [1] * many, [7] * many, [DEAR] * many, list(range(many)), list(range(many))[::-1],
            [DEAR * (k % 2) for k in range(many)], [0] * (many - 1) + [DEAR] * (many > 0),
            [chance.randrange(4) for _ in range(many)], [chance.randrange(DEAR + 1) for _ in range(many)]]


class OfLevels(unittest.TestCase):
    def test_any_levels(self):
        prices = [3, 10, DEAR]
        for levels, worth in [([], 0), ([1], 3), ([2, 2], 20), ([1, 2, 1], 16), ([3, 3, 3], 3 * DEAR),
                              ([3, 1], DEAR + 3)]:
            self.assertEqual(price_of(levels, prices), worth)
            self.assertEqual(price_of(tuple(levels), tuple(prices)), worth)
        self.assertEqual(price_of([], []), 0)
        self.assertEqual(price_of([1] * 435, [DEAR]), 435 * DEAR)
        self.assertEqual(price_of(first_row(falling(30)), [1] * 29), 435)


class OfOrders(unittest.TestCase):
    def check(self, w, prices, rows):
        worths = [sum(prices[level - 1] for level in row) for row in rows]
        self.assertEqual(least_price(w, prices), min(worths), (w, prices))
        self.assertEqual(greatest_price(w, prices), max(worths), (w, prices))
        row = cheapest(w, prices)
        self.assertEqual(row, rows[worths.index(min(worths))], (w, prices))
        self.assertIs(type(row), list)
        self.assertEqual(cheapest(w, tuple(prices)), row)
        self.assertEqual(least_price(w, tuple(prices)), min(worths))
        self.assertEqual(greatest_price(w, tuple(prices)), max(worths))

    def test_the_example(self):
        self.check((2, 1, 0), [5, 3], [[1, 2, 1], [2, 1, 2]])
        self.assertEqual(least_price((2, 1, 0), [5, 3]), 11)
        self.assertEqual(greatest_price((2, 1, 0), [5, 3]), 13)
        self.assertEqual(cheapest((2, 1, 0), [5, 3]), [2, 1, 2])
        self.assertEqual(cheapest((2, 1, 0), [3, 5]), [1, 2, 1])
        self.assertEqual(cheapest((2, 1, 0), [4, 4]), [1, 2, 1])

    def test_all_small_orders(self):
        chance = random.Random(72)
        for n in range(5):
            for w in itertools.permutations(range(n)):
                for prices in some_prices(max(n - 1, 0), chance):
                    self.check(w, prices, brute.level_rows(w))

    def test_five_numbers(self):
        chance = random.Random(73)
        for w in list(itertools.permutations(range(5)))[::13] + [falling(5)]:
            rows = brute.level_rows(w)
            for prices in some_prices(4, chance):
                self.check(w, prices, rows)

    def test_no_numbers_and_one(self):
        for w in [(), (0,)]:
            self.assertEqual(least_price(w, []), 0)
            self.assertEqual(greatest_price(w, []), 0)
            self.assertEqual(cheapest(w, []), [])

    def test_rising_orders(self):
        for n in range(1, 7):
            prices = [DEAR] * (n - 1)
            self.assertEqual((least_price(rising(n), prices), greatest_price(rising(n), prices)), (0, 0))
            self.assertEqual(cheapest(rising(n), prices), [])

    def test_equal_prices(self):
        for w in list(itertools.permutations(range(6)))[::53] + [falling(6)]:
            for price in [0, 1, DEAR]:
                prices = [price] * 5
                self.assertEqual(least_price(w, prices), price * inversions(w))
                self.assertEqual(greatest_price(w, prices), price * inversions(w))
                self.assertEqual(cheapest(w, prices), first_row(w))

    def test_six_numbers(self):
        prices = [4, 0, DEAR, 2, 9]
        w = falling(6)
        row = cheapest(w, prices)
        self.assertEqual(price_of(row, prices), least_price(w, prices))
        self.assertLess(least_price(w, prices), greatest_price(w, prices))
        self.assertEqual(row_at(w, row_number(w, row)), row)
        for w in [(1, 0, 5, 4, 3, 2), (4, 5, 0, 3, 2, 1), (2, 4, 1, 5, 3, 0)]:
            self.check(w, prices, brute.level_rows(w))

    def test_plain_orders_have_one_price(self):
        chance = random.Random(74)
        for w in itertools.permutations(range(5)):
            prices = [chance.randrange(DEAR) for _ in range(4)]
            if is_plain(w):
                self.assertEqual(least_price(w, prices), greatest_price(w, prices))
