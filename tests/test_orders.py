import itertools
import random
import unittest

from codenests.errors import NoLevel
from codenests.grounds import Ground
from codenests.orders import inversions, is_order, sorting_steps, stepped, turned_back
from tests import brute
from tests.anything import GREAT, NEGATIVE, deep, no_integers


def some_orders():
    """All orders of up to 5 numbers, and some of more."""
    chance = random.Random(63)
    found = [w for n in range(6) for w in itertools.permutations(range(n))]
    for n in [6, 8, 13, 30, 30]:
        found.append(tuple(chance.sample(range(n), n)))
    return found + [tuple(range(30)), tuple(range(30))[::-1]]


class Orders(unittest.TestCase):
    def test_all_short_tuples(self):
        for n in range(5):
            for many in range(5):
                for value in itertools.product([-1, 0, 1, 2, 3, 4], repeat=many):
                    right = many == n and sorted(value) == list(range(n))
                    self.assertIs(is_order(n, value), right, (n, value))

    def test_some_orders(self):
        for w in some_orders():
            for n in [len(w) - 1, len(w), len(w) + 1]:
                if n >= 0:
                    self.assertIs(is_order(n, w), n == len(w), (n, w))

    def test_no_columns_and_one_column(self):
        self.assertIs(is_order(0, ()), True)
        self.assertIs(is_order(1, (0,)), True)
        wrong = [[], [0], (1,), (-1,), (0, 0), (0, 1), (False,), (None,), ((),), ((0,),), 0, None, "", "0", {}]
        for n in [0, 1]:
            for value in wrong:
                self.assertIs(is_order(n, value), False, (n, value))

    def test_values_of_all_kinds(self):
        for n in range(4):
            for value in no_integers() + NEGATIVE + [0, 1, 2, GREAT, deep((0, 1)), list(range(n)), {0: 1}]:
                if value != ():
                    self.assertIs(is_order(n, value), False, (n, value))

    def test_members_of_all_kinds(self):
        for member in no_integers() + NEGATIVE + [2, 4, GREAT, Ground(2, 2)]:
            self.assertIs(is_order(4, (2, 0, member, 3)), False, repr(member))
            self.assertIs(is_order(4, (member, 2, 0, 3)), False, repr(member))
        self.assertIs(is_order(4, (2, 0, 1, 3)), True)

    def test_true_and_false_are_not_numbers(self):
        for value in [(False, True), (0, True), (False, 1), (True, 0), (1, False)]:
            self.assertIs(is_order(2, value), False, value)

    def test_a_list_is_no_order(self):
        for w in some_orders():
            self.assertIs(is_order(len(w), list(w)), False)

    def test_members_told_twice(self):
        for w in some_orders():
            for a, b in itertools.permutations(range(min(len(w), 6)), 2):
                self.assertIs(is_order(len(w), w[:a] + (w[b],) + w[a + 1:]), False)


class WhatOrdersTell(unittest.TestCase):
    def test_inversions(self):
        self.assertEqual(inversions((2, 0, 3, 1)), 3)
        self.assertEqual(inversions(tuple(range(30))[::-1]), 435)
        for w in some_orders():
            self.assertEqual(inversions(w), brute.count_inversions(w))
            self.assertIs(type(inversions(w)), int)

    def test_turned_back(self):
        self.assertEqual(turned_back((1, 2, 0)), (2, 0, 1))
        for w in some_orders():
            back = turned_back(w)
            self.assertIs(type(back), tuple)
            self.assertEqual([back[w[a]] for a in range(len(w))], list(range(len(w))))
            self.assertEqual(turned_back(back), w)
            self.assertEqual(inversions(back), inversions(w))

    def test_sorting_steps(self):
        self.assertEqual(sorting_steps((2, 0, 3, 1)), [1, 3])
        for w in some_orders():
            self.assertEqual(sorting_steps(w), [i for i in range(1, len(w)) if w[i - 1] > w[i]])
            self.assertIs(type(sorting_steps(w)), list)

    def test_stepped(self):
        self.assertEqual(stepped((2, 0, 3, 1), 2), (2, 3, 0, 1))
        for w in some_orders():
            for i in range(1, len(w)):
                wanted = list(w)
                wanted[i - 1], wanted[i] = wanted[i], wanted[i - 1]
                self.assertEqual(stepped(w, i), tuple(wanted))
                step = -1 if i in sorting_steps(w) else 1
                self.assertEqual(inversions(stepped(w, i)), inversions(w) + step)

    def test_no_level(self):
        for w in [(), (0,), (1, 0), (0, 2, 1), tuple(range(30))]:
            for value in no_integers() + NEGATIVE + [0, len(w), len(w) + 1, GREAT]:
                with self.assertRaises(NoLevel) as caught:
                    stepped(w, value)
                self.assertIs(caught.exception.level, value)
