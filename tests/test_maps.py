import itertools
import random
import unittest

from codenests.errors import BadMap, TooGreat
from codenests.grounds import Ground
from codenests.maps import (all_maps, check_map, count_maps, is_map, led_code, led_row, then, turned_back, unit_map)
from codenests.nests import standard
from tests import brute
from tests.anything import GREAT, NEGATIVE, deep, no_integers

SMALL = [(2, 0), (5, 0), (2, 1), (5, 1), (13, 1), (2, 2), (3, 2), (5, 2), (2, 3)]

A = ((1, 2, 0), (0, 1, 1), (2, 0, 1))


def maps_by_rows(p, n):
    """All maps, ascending: the tuples of n rows that span all rows."""
    rows = brute.rows_of_length(p, n)
    return [one for one in itertools.product(rows, repeat=n) if len(brute.span(p, n, one)) == p ** n]


def some_maps(p, n, many, seed):
    chance = random.Random(seed)
    found = []
    while len(found) < many:
        one = tuple(tuple(chance.randrange(p) for _ in range(n)) for _ in range(n))
        if len(brute.echelon(p, one)) == n:
            found.append(one)
    return found


def led_by_words(p, n, one, row):
    """Where a map leads a row by S8.1."""
    return brute.combination(p, n, row, one)


def wrong_maps():
    """Values that are no map of the ground with p = 3 and n = 3, each with its path."""
    wrong = [(value, ()) for value in no_integers() + NEGATIVE + [0, 3, GREAT, list(A), A[:2], A + A[:1], {0: A}]
             + [standard(Ground(3, 3)), deep(A), "abc"]]
    for k in range(3):
        for row in no_integers() + NEGATIVE + [0, 1, GREAT, list(A[k]), A[k][:2], A[k] + (0,), (), "abc", Ground(3, 3)]:
            wrong.append((A[:k] + (row,) + A[k + 1:], (k,)))
        for j in range(3):
            for entry in no_integers() + NEGATIVE + [3, 4, GREAT, standard(Ground(2, 2))]:
                row = A[k][:j] + (entry,) + A[k][j + 1:]
                wrong.append((A[:k] + (row,) + A[k + 1:], (k, j)))
                wrong.append((A[:k] + (row,) + ((None,),) * (2 - k), (k, j)))
        wrong.append((A[:k] + ((0, 0, 0),) + A[k + 1:], ()))
    wrong.append((((1, 2, 0), (0, 3, None), [1]), (1, 1)))
    wrong.append((((1, 2, 0), (0, 3), [1]), (1,)))
    wrong.append((((1, 2, 0), (2, 1, 0), (0, 0, 1)), ()))
    wrong.append((((1, 2, 0), (0, 1, 1), (1, 0, 1)), ()))
    wrong.append((((0, 0, 0), (0, 0, 0), (0, 0, 3)), (2, 2)))
    return wrong


class WhatIsAMap(unittest.TestCase):
    def test_all_squares_of_small_grounds(self):
        for p, n in [(2, 0), (3, 0), (2, 1), (3, 1), (2, 2), (3, 2), (2, 3)]:
            ground = Ground(p, n)
            right = maps_by_rows(p, n)
            for square in itertools.product(brute.rows_of_length(p, n), repeat=n):
                self.assertIs(is_map(ground, square), square in right)
                if square in right:
                    self.assertIsNone(check_map(ground, square))
                else:
                    with self.assertRaises(BadMap) as caught:
                        check_map(ground, square)
                    self.assertEqual(caught.exception.path, ())

    def test_wrong_values(self):
        ground = Ground(3, 3)
        self.assertTrue(is_map(ground, A))
        for value, path in wrong_maps():
            self.assertIs(is_map(ground, value), False)
            for refuse in [check_map, turned_back, lambda ground, one: led_row(ground, one, (1, 2, 0)),
                           lambda ground, one: led_code(ground, one, ((1, 2, 0),)),
                           lambda ground, one: then(ground, one, A), lambda ground, one: then(ground, A, one)]:
                with self.assertRaises(BadMap) as caught:
                    refuse(ground, value)
                self.assertEqual(caught.exception.path, path, value)
                self.assertIs(type(caught.exception.path), tuple)

    def test_small_grounds(self):
        for p in [2, 13]:
            for value in no_integers() + [0, (0,), ((1,), (1,)), ((0,),), [()]]:
                self.assertIs(is_map(Ground(p, 0), value), value == ())
                self.assertIs(is_map(Ground(p, 1), value), False)
            self.assertIsNone(check_map(Ground(p, 0), ()))
            self.assertIsNone(check_map(Ground(p, 1), ((1,),)))
            self.assertIs(is_map(Ground(p, 1), ((p - 1,),)), True)
        with self.assertRaises(BadMap) as caught:
            check_map(Ground(5, 1), ((0,),))
        self.assertEqual(caught.exception.path, ())
        with self.assertRaises(BadMap) as caught:
            check_map(Ground(5, 1), ((True,),))
        self.assertEqual(caught.exception.path, (0, 0))


class WhereTheyLead(unittest.TestCase):
    def test_all_rows_of_small_grounds(self):
        for p, n in [(2, 0), (5, 1), (3, 2), (2, 3)]:
            ground = Ground(p, n)
            for one in maps_by_rows(p, n):
                for row in brute.rows_of_length(p, n):
                    self.assertEqual(led_row(ground, one, row), led_by_words(p, n, one, row))
                for k, unit in enumerate(ground.units()):
                    self.assertEqual(led_row(ground, one, unit), one[k])

    def test_all_codes_of_small_grounds(self):
        for p, n in [(2, 0), (5, 1), (3, 2), (2, 3)]:
            ground = Ground(p, n)
            spans = brute.all_spans(p, n)
            for one in maps_by_rows(p, n):
                for rows in spans:
                    wanted = brute.base_of_span(frozenset(led_by_words(p, n, one, row) for row in rows))
                    self.assertEqual(led_code(ground, one, brute.base_of_span(rows)), wanted)

    def test_great_grounds(self):
        for p, n in [(13, 6), (2, 6), (7, 4)]:
            ground = Ground(p, n)
            for seed, one in enumerate(some_maps(p, n, 5, p)):
                for other in some_maps(p, n, 3, seed):
                    for row in other:
                        self.assertEqual(led_row(ground, one, row), led_by_words(p, n, one, row))
                    code = brute.echelon(p, other[:n // 2])
                    wanted = brute.echelon(p, [led_by_words(p, n, one, row) for row in code])
                    self.assertEqual(led_code(ground, one, code), wanted)

    def test_nothing_and_everything(self):
        for p, n in SMALL + [(13, 6)]:
            ground = Ground(p, n)
            for one in some_maps(p, n, 3, 8):
                self.assertEqual(led_row(ground, one, ground.zero()), ground.zero())
                self.assertEqual(led_code(ground, one, ()), ())
                self.assertEqual(led_code(ground, one, ground.units()), ground.units())


class OneThenAnother(unittest.TestCase):
    def test_the_example(self):
        ground = Ground(3, 2)
        self.assertEqual(then(ground, ((1, 1), (0, 1)), ((0, 1), (1, 0))), ((1, 1), (1, 0)))
        self.assertEqual(led_row(ground, ((1, 0), (1, 2)), (1, 1)), (2, 2))
        self.assertEqual(led_row(ground, ((1, 1), (1, 0)), (0, 1)), (1, 0))

    def test_then(self):
        for p, n in [(2, 0), (5, 1), (3, 2), (2, 3), (13, 6)]:
            ground = Ground(p, n)
            for one in some_maps(p, n, 6, 1):
                for other in some_maps(p, n, 6, 2):
                    both = then(ground, one, other)
                    self.assertTrue(is_map(ground, both))
                    for row in one + other + ground.units():
                        self.assertEqual(led_row(ground, both, row), led_row(ground, other, led_row(ground, one, row)))

    def test_turned_back(self):
        for p, n in SMALL:
            ground = Ground(p, n)
            for one in maps_by_rows(p, n):
                back = turned_back(ground, one)
                self.assertTrue(is_map(ground, back))
                for row in brute.rows_of_length(p, n):
                    self.assertEqual(led_by_words(p, n, back, led_by_words(p, n, one, row)), row)
        for p, n in [(13, 6), (2, 6)]:
            ground = Ground(p, n)
            for one in some_maps(p, n, 5, 3):
                self.assertEqual(then(ground, one, turned_back(ground, one)), unit_map(ground))
                self.assertEqual(then(ground, turned_back(ground, one), one), unit_map(ground))

    def test_the_unit_map(self):
        for p, n in SMALL + [(13, 6)]:
            ground = Ground(p, n)
            unit = unit_map(ground)
            self.assertEqual(unit, tuple(tuple(int(k == j) for j in range(n)) for k in range(n)))
            self.assertTrue(is_map(ground, unit))
            self.assertEqual(turned_back(ground, unit), unit)
            for one in some_maps(p, n, 4, 4):
                self.assertEqual(then(ground, unit, one), one)
                self.assertEqual(then(ground, one, unit), one)
                for row in one:
                    self.assertEqual(led_row(ground, unit, row), row)

    def test_one_is_looked_at_first(self):
        ground = Ground(3, 3)
        wrong = [(None, ()), (A[:2] + ((0, 1),), (2,)), (A[:1] + ((0, 7, 1),) + A[2:], (1, 1)), (((0, 0, 0),) * 3, ())]
        for value, path in wrong:
            for other, _ in wrong:
                with self.assertRaises(BadMap) as caught:
                    then(ground, value, other)
                self.assertEqual(caught.exception.path, path)


class HowMany(unittest.TestCase):
    def test_known_numbers(self):
        known = {(2, 0): 1, (13, 0): 1, (2, 1): 1, (13, 1): 12, (2, 2): 6, (3, 2): 48, (2, 3): 168, (3, 3): 11232}
        for (p, n), many in known.items():
            self.assertEqual(count_maps(Ground(p, n)), many)

    def test_thirty_columns(self):
        for p, n in [(2, 30), (13, 30), (13, 6)]:
            wanted = 1
            for i in range(n):
                wanted *= p ** n - p ** i
            self.assertEqual(count_maps(Ground(p, n)), wanted)

    def test_all_of_them(self):
        for p, n in SMALL:
            found = all_maps(Ground(p, n))
            self.assertEqual(found, maps_by_rows(p, n))
            self.assertIs(type(found), list)
            self.assertEqual(len(found), count_maps(Ground(p, n)))
        self.assertEqual(all_maps(Ground(2, 0)), [()])

    def test_too_great(self):
        self.assertEqual(count_maps(Ground(7, 2)), 2016)
        for p, n in [(7, 2), (11, 2), (3, 3), (2, 4), (13, 6)]:
            with self.assertRaises(TooGreat):
                all_maps(Ground(p, n))

    def test_a_new_list(self):
        found = all_maps(Ground(2, 2))
        found.clear()
        self.assertEqual(len(all_maps(Ground(2, 2))), 6)
