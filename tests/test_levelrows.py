import itertools
import random
import unittest

from codenests.below import falling, rising
from codenests.errors import BadLevels, TooGreat
from codenests.grounds import Ground
from codenests.levelrows import (count_rows, falling_places, first_row, is_plain, judge_levels, row_at, row_number)
from codenests.orders import inversions
from tests import brute
from tests.anything import GREAT, NEGATIVE, deep, no_integers

ORDERS = [w for n in range(5) for w in itertools.permutations(range(n))]
W = (2, 0, 3, 1)


def fault(w, levels):
    """The number that is told of a list of levels, or None, by S5.5."""
    for k, level in enumerate(levels):
        if type(level) is not int or not 1 <= level < len(w) or w[level - 1] < w[level]:
            return k
        w = brute.exchanged(w, level)
    return len(levels) if list(w) != sorted(w) else None


class Rows(unittest.TestCase):
    def check(self, w, rows):
        self.assertEqual(count_rows(w), len(rows))
        self.assertEqual(first_row(w), rows[0])
        for number, row in enumerate(rows):
            found = row_at(w, number)
            self.assertEqual(found, row)
            self.assertIs(type(found), list)
            self.assertEqual(row_number(w, row), number)
            self.assertEqual(row_number(w, tuple(row)), number)
            self.assertIsNone(judge_levels(w, row))
            self.assertIsNone(judge_levels(w, tuple(row)))
        for number in [len(rows), len(rows) + 1, GREAT]:
            with self.assertRaises(TooGreat):
                row_at(w, number)

    def test_the_examples(self):
        self.check(W, [[1, 3, 2], [3, 1, 2]])
        self.check((2, 1, 0), [[1, 2, 1], [2, 1, 2]])
        self.check((1, 2, 0), [[2, 1]])

    def test_all_small_orders(self):
        for w in ORDERS:
            rows = brute.level_rows(w)
            self.assertEqual(rows, sorted(rows))
            self.check(w, rows)

    def test_five_numbers(self):
        for w in list(itertools.permutations(range(5)))[::9] + [(4, 3, 2, 1, 0)]:
            self.check(w, brute.level_rows(w))

    def test_six_numbers(self):
        self.assertEqual(count_rows(falling(6)), 292864)
        for w in [falling(6), (5, 2, 4, 1, 3, 0)]:
            many = count_rows(w)
            before = []
            for number in [0, 1, many // 3, many // 2, many - 1]:
                row = row_at(w, number)
                self.assertIsNone(fault(w, row))
                self.assertEqual(row_number(w, row), number)
                self.assertLess(before, row)
                before = row
            with self.assertRaises(TooGreat):
                row_at(w, many)
        w = (3, 5, 0, 4, 1, 2)
        self.check(w, brute.level_rows(w))

    def test_no_numbers_one_and_rising_ones(self):
        for n in range(7):
            self.check(rising(n), [[]])

    def test_first_row_of_great_orders(self):
        chance = random.Random(71)
        for n in [8, 15, 30]:
            for w in [tuple(chance.sample(range(n), n)), falling(n), rising(n)]:
                row = first_row(w)
                self.assertEqual(len(row), inversions(w))
                self.assertIsNone(fault(w, row))
                left = w
                for level in row:
                    self.assertEqual(level, min(i for i in range(1, n) if left[i - 1] > left[i]))
                    left = brute.exchanged(left, level)


class Judged(unittest.TestCase):
    def wrong(self, w, levels, number):
        self.assertEqual(judge_levels(w, list(levels)), ("levels", number), (w, levels))
        self.assertEqual(judge_levels(w, tuple(levels)), ("levels", number), (w, levels))

    def refused(self, w, levels, number):
        for passed in [list(levels), tuple(levels)]:
            with self.assertRaises(BadLevels) as caught:
                row_number(w, passed)
            self.assertEqual(caught.exception.number, number, (w, levels))
            self.assertIs(type(caught.exception.number), int)

    def test_all_short_lists(self):
        for w in [(), (0,), (0, 1), (1, 0), (2, 1, 0), (1, 2, 0), W, (0, 3, 1, 2), (3, 2, 0, 1)]:
            for many in range(5):
                for levels in itertools.product(range(5), repeat=many):
                    number = fault(w, levels)
                    if number is None:
                        self.assertIsNone(judge_levels(w, levels))
                        self.assertEqual(row_number(w, levels), brute.level_rows(w).index(list(levels)))
                    else:
                        self.wrong(w, levels, number)
                        self.refused(w, levels, number)

    def test_members_of_all_kinds(self):
        for member in no_integers() + NEGATIVE + [0, 4, GREAT, Ground(2, 2)]:
            for k, row in itertools.product(range(4), [[1, 3, 2], [3, 1, 2]]):
                for levels in [row[:k] + [member] + row[k:], row[:k] + [member], row[:k] + [member, None, member]]:
                    self.wrong(W, levels, k)
                    self.refused(W, levels, k)
        self.wrong((1, 0), [True], 0)
        self.wrong((2, 1, 0), [2, True, 2], 1)

    def test_beyond_the_end_and_not_to_the_end(self):
        self.wrong(W, [1, 3, 2, 2], 3)
        self.wrong(W, [1, 3, 2, 1, 0], 3)
        self.wrong(W, [1, 3], 2)
        self.wrong(W, [], 0)
        self.wrong(rising(4), [1], 0)
        self.wrong(falling(30), first_row(falling(30))[:-1], 434)
        self.wrong(falling(30), first_row(falling(30)) + [29], 435)
        self.assertIsNone(judge_levels(falling(30), first_row(falling(30))))

    def test_neither_list_nor_tuple(self):
        for value in no_integers() + NEGATIVE + [0, 1, GREAT, "132", {0: 1}, {}, None, Ground(2, 4)]:
            if not isinstance(value, (list, tuple)):
                for w in [W, (), rising(4)]:
                    self.assertEqual(judge_levels(w, value), ("form",), repr(value))

    def test_values_of_all_kinds(self):
        for value in no_integers() + [deep(1), [deep([1, 3, 2])]]:
            if isinstance(value, (list, tuple)):
                self.wrong(W, value, 0)


class Plain(unittest.TestCase):
    def test_all_small_orders(self):
        for w in ORDERS + list(itertools.permutations(range(5))):
            triples = [places for places in itertools.combinations(range(len(w)), 3)
                       if w[places[0]] > w[places[1]] > w[places[2]]]
            self.assertIs(is_plain(w), triples == [])
            self.assertEqual(falling_places(w), min(triples) if triples else None)

    def test_the_same_levels_equally_often(self):
        for w in ORDERS:
            kinds = {tuple(sorted(row)) for row in brute.level_rows(w)}
            self.assertIs(is_plain(w), len(kinds) == 1, w)

    def test_the_least_triple(self):
        self.assertIs(is_plain(W), True)
        self.assertEqual(falling_places((2, 1, 0)), (0, 1, 2))
        self.assertEqual(falling_places((0, 3, 4, 2, 1)), (1, 3, 4))
        self.assertEqual(falling_places((1, 4, 0, 3, 2)), (1, 3, 4))
        self.assertEqual(falling_places((3, 1, 2, 0)), (0, 1, 3))
        self.assertIs(type(falling_places((2, 1, 0))), tuple)

    def test_thirty_numbers(self):
        self.assertEqual(falling_places(falling(30)), (0, 1, 2))
        self.assertIsNone(falling_places(rising(30)))
        w = rising(27) + (29, 28, 27)
        self.assertEqual(falling_places(w), (27, 28, 29))
        self.assertIs(is_plain(w), False)
        self.assertIs(is_plain(tuple(range(15, 30)) + tuple(range(15))), True)
