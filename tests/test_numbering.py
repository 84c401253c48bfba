import inspect
import itertools
import math
import random
import unittest

from codenests.counting import count_nests
from codenests.differences import order_of
from codenests.errors import BadOrder, BadRow, TooGreat, UnlikeGrounds
from codenests.grounds import Ground
from codenests.nests import Nest, standard
from codenests.numbering import (digits, drawn, nest_at, nest_of, nest_off, nests_from, next_nest, normal_order,
                                 normal_rows, number_of, off)
from tests import brute
from tests.anything import GREAT, NEGATIVE, deep, no_integers
from tests.test_differences import F, G, H, opposite, some_nests

SIZES = [(2, 0), (5, 0), (2, 1), (5, 1), (2, 2), (3, 2), (7, 2), (2, 3), (3, 3), (2, 4)]

# The nest of the example S7.7.
EXAMPLE = Nest(Ground(2, 3), [((1, 1, 0),), ((1, 0, 1), (0, 1, 1))])


def nests_of_ground(p, n):
    return [Nest(Ground(p, n), codes) for codes in brute.all_nests(p, n)]


def nests_of_all_kinds():
    for p, n in SIZES:
        yield from nests_of_ground(p, n)
    for p, n, many in [(5, 3, 10), (3, 4, 10), (2, 6, 6), (13, 6, 4)]:
        yield from some_nests(p, n, many, 100 * p + n)


def places(order):
    """The places of the digits by the words of S7.3: for each row the columns."""
    n = len(order)
    return [(i, column) for i in range(n) for column in sorted(order[b] for b in range(i + 1, n))
            if column < order[i]]


def normal_by_rows(nest):
    """The normal order and the normal rows by S7.3, from the sets of all rows."""
    p, n = nest.ground().p(), nest.ground().n()
    chain = brute.chain_of(p, n, nest.codes())
    order, rows = [], []
    for i in range(n):
        found = [(column, row) for row in chain[i + 1] - chain[i] for column in range(n)
                 if row[column] == 1 and not any(row[column + 1:]) and not any(row[a] for a in order)]
        assert len(found) == 1, found
        order.append(found[0][0])
        rows.append(found[0][1])
    return tuple(order), rows


def digits_by_rows(order, rows):
    return [rows[i][column] for i, column in places(order)]


class Normal(unittest.TestCase):
    def test_the_example(self):
        self.assertEqual(normal_order(EXAMPLE), (1, 2, 0))
        self.assertEqual(normal_rows(EXAMPLE), [(1, 1, 0), (1, 0, 1), (1, 0, 0)])
        self.assertEqual(digits(EXAMPLE), [1, 1])
        self.assertEqual(number_of(EXAMPLE), 8)

    def test_all_nests_of_small_grounds(self):
        for p, n in SIZES:
            for nest in nests_of_ground(p, n):
                order, rows = normal_by_rows(nest)
                self.assertEqual(normal_order(nest), order)
                self.assertEqual(normal_rows(nest), rows)
                self.assertEqual(digits(nest), digits_by_rows(order, rows))

    def test_the_sentence(self):
        for nest in nests_of_all_kinds():
            p, n = nest.ground().p(), nest.ground().n()
            order, rows = normal_order(nest), normal_rows(nest)
            self.assertEqual(sorted(order), list(range(n)))
            self.assertEqual(len(rows), n)
            for i, row in enumerate(rows):
                self.assertEqual(brute.echelon(p, rows[:i]), nest.code(i))
                self.assertEqual(row[order[i]], 1)
                self.assertFalse(any(row[order[i] + 1:]))
                self.assertFalse(any(row[order[a]] for a in range(i)))
            self.assertEqual(digits(nest), digits_by_rows(order, rows))
            self.assertEqual(len(digits(nest)), brute.count_inversions(order))
            self.assertEqual(order, order_of(nest, standard(nest.ground())))

    def test_what_they_are(self):
        for nest in [EXAMPLE, F, G, H, standard(Ground(2, 0)), standard(Ground(3, 1))]:
            self.assertIs(type(normal_order(nest)), tuple)
            self.assertIs(type(normal_rows(nest)), list)
            self.assertTrue(all(type(row) is tuple for row in normal_rows(nest)))
            self.assertIs(type(digits(nest)), list)

    def test_the_standard_nest_and_its_opposite(self):
        for p, n in SIZES + [(13, 6)]:
            ground = Ground(p, n)
            nest = standard(ground)
            self.assertEqual(normal_order(nest), tuple(range(n)))
            self.assertEqual(normal_rows(nest), list(ground.units()))
            self.assertEqual(digits(nest), [])
            self.assertEqual(normal_order(opposite(ground)), tuple(range(n))[::-1])
            self.assertEqual(digits(opposite(ground)), [0] * (n * (n - 1) // 2))


class Told(unittest.TestCase):
    """Nests that are told by an order and digits."""

    def test_there_and_back(self):
        for nest in nests_of_all_kinds():
            for passed in [digits(nest), tuple(digits(nest))]:
                self.assertEqual(nest_of(nest.ground(), normal_order(nest), passed), nest)

    def test_back_and_there(self):
        for p, n in SIZES:
            ground = Ground(p, n)
            found = []
            for order in itertools.permutations(range(n)):
                for entries in itertools.product(range(p), repeat=brute.count_inversions(order)):
                    nest = nest_of(ground, order, list(entries))
                    self.assertEqual(normal_order(nest), order)
                    self.assertEqual(digits(nest), list(entries))
                    found.append(tuple(nest.codes()))
            self.assertEqual(sorted(found), brute.all_nests(p, n))

    def test_digits_by_ascending_columns(self):
        nest = nest_of(Ground(13, 4), (2, 3, 1, 0), [1, 2, 3, 4, 5])
        self.assertEqual(normal_rows(nest), [(1, 2, 1, 0), (3, 4, 0, 1), (5, 1, 0, 0), (1, 0, 0, 0)])

    def makers(self):
        """nest_of and nest_off, each as a function of a ground and of what may be anything."""
        return [nest_of, lambda ground, order, value: nest_off(opposite(ground), order, value)]

    def refused(self, wanted, p, n, order, value, path):
        for make in self.makers():
            with self.assertRaises(wanted) as caught:
                make(Ground(p, n), order, value)
            self.assertEqual(caught.exception.path, path, (order, value))
            self.assertIs(type(caught.exception.path), tuple)

    def test_what_is_no_order(self):
        entries = [1, 2]
        for value in no_integers() + NEGATIVE + [0, 3, GREAT, [1, 2, 0], (1, 2), (1, 2, 0, 3), {0: 1}, F]:
            self.refused(BadOrder, 3, 3, value, entries, ())
        for member in no_integers() + NEGATIVE + [3, GREAT, F]:
            for k in range(3):
                order = (1, 2, 0)[:k] + (member,) + (1, 2, 0)[k + 1:]
                self.refused(BadOrder, 3, 3, order, entries, (k,))
        self.refused(BadOrder, 3, 3, (1, 1, 7), entries, (1,))
        self.refused(BadOrder, 3, 3, (1, 2, 1), entries, (2,))
        self.refused(BadOrder, 3, 0, (0,), [], ())
        self.refused(BadOrder, 3, 1, (1,), [], (0,))
        self.refused(BadOrder, 3, 1, (False,), [], (0,))

    def test_orders_are_looked_at_first(self):
        for value in no_integers() + [5, (1, 2, 3)]:
            self.refused(BadOrder, 3, 3, (1, 2, 2), value, (2,))
            self.refused(BadOrder, 3, 3, None, value, ())

    def test_no_list_of_as_many_digits(self):
        for value in no_integers() + NEGATIVE + [0, 2, GREAT, F, {0: 1, 1: 2}, "12", [1], (1,), [1, 2, 0], (1, 2, 0)]:
            if not isinstance(value, (list, tuple)) or len(value) != 2:
                self.refused(BadRow, 3, 3, (1, 2, 0), value, ())
        for value in [None, "", {}, [0], (0,), 0, F]:
            for n in [0, 1, 4]:
                self.refused(BadRow, 3, n, tuple(range(n)), value, ())

    def test_wrong_digits(self):
        for member in no_integers() + NEGATIVE + [3, 4, GREAT, F, deep(1)]:
            for kind in [list, tuple]:
                for k in range(3):
                    value = [0, 2, 1]
                    value[k] = member
                    self.refused(BadRow, 3, 3, (2, 1, 0), kind(value), (k,))
                self.refused(BadRow, 3, 3, (2, 1, 0), kind([1, member, member]), (1,))

    def test_small_grounds(self):
        for p in [2, 13]:
            for n, order in [(0, ()), (1, (0,))]:
                ground = Ground(p, n)
                for passed in [[], ()]:
                    self.assertEqual(nest_of(ground, order, passed), standard(ground))
                    self.assertEqual(nest_off(standard(ground), order, passed), standard(ground))
                self.assertEqual(off(standard(ground), standard(ground)), (order, ()))
                self.assertEqual(normal_order(standard(ground)), order)
                self.assertEqual(normal_rows(standard(ground)), list(ground.units()))
                self.assertEqual(digits(standard(ground)), [])


class Off(unittest.TestCase):
    def off_by_rows(self, nest, order, entries):
        """The codes of the nest that is off a nest, by the words of S7.5."""
        p, n = nest.ground().p(), nest.ground().n()
        base = normal_by_rows(nest)[1]
        codes = nest_of(nest.ground(), order, entries).codes()
        return [brute.echelon(p, [brute.combination(p, n, row, base) for row in code]) for code in codes]

    def test_the_words(self):
        for p, n in [(2, 2), (3, 2), (2, 3)]:
            for nest in nests_of_ground(p, n):
                for other in nests_of_ground(p, n):
                    order, entries = normal_order(other), digits(other)
                    found = nest_off(nest, order, entries)
                    self.assertEqual(found.codes(), self.off_by_rows(nest, order, entries))
                    self.assertEqual(found, nest_off(nest, order, tuple(entries)))
                    self.assertEqual(order_of(found, nest), order)
                    self.assertEqual(off(nest, found), (order, tuple(entries)))

    def test_each_nest_is_off_by_one_order_and_digits(self):
        for p, n in [(2, 0), (3, 1), (3, 2), (2, 3)]:
            nests = nests_of_ground(p, n)
            for nest in nests:
                self.assertEqual(len({off(nest, other) for other in nests}), len(nests))

    def test_there_and_back(self):
        for p, n, many in [(2, 3, 20), (3, 4, 12), (2, 6, 6), (13, 6, 6)]:
            nests = some_nests(p, n, 2 * many, p + n)
            for nest, other in zip(nests[::2], nests[1::2]):
                order, entries = off(nest, other)
                self.assertEqual(order, order_of(other, nest))
                self.assertEqual(nest_off(nest, order, entries), other)
                self.assertEqual(nest_off(nest, order, list(entries)), other)

    def test_what_it_is(self):
        pair = off(F, G)
        self.assertIs(type(pair), tuple)
        self.assertEqual([type(part) for part in pair], [tuple, tuple])
        self.assertEqual(off(EXAMPLE, EXAMPLE), ((0, 1, 2), ()))
        self.assertEqual(nest_off(EXAMPLE, (0, 1, 2), []), EXAMPLE)

    def test_off_the_standard_nest(self):
        for nest in nests_of_ground(3, 3)[::7]:
            self.assertEqual(off(standard(Ground(3, 3)), nest), (normal_order(nest), tuple(digits(nest))))

    def test_unlike_grounds(self):
        nests = [standard(Ground(p, n)) for p, n in [(2, 0), (3, 0), (2, 1), (2, 3), (3, 3), (2, 4)]]
        for nest, other in itertools.permutations(nests, 2):
            with self.assertRaises(UnlikeGrounds):
                off(nest, other)


class Numbers(unittest.TestCase):
    def sorted_nests(self, p, n):
        """All nests in the order of S7.4."""
        def key(nest):
            order, rows = normal_by_rows(nest)
            return order, digits_by_rows(order, rows)
        return sorted(nests_of_ground(p, n), key=key)

    def test_the_order_of_the_document(self):
        for p, n in SIZES:
            ground = Ground(p, n)
            nests = self.sorted_nests(p, n)
            for number, nest in enumerate(nests):
                self.assertEqual(nest_at(ground, number), nest)
                self.assertEqual(number_of(nest), number)
                self.assertEqual(next_nest(nest), nests[number + 1] if number + 1 < len(nests) else None)

    def test_too_great(self):
        for p, n in SIZES + [(13, 6)]:
            many = count_nests(Ground(p, n))
            for number in [many, many + 1, 2 * many, many + 10 ** 9, 10 ** 60 - 1]:
                with self.assertRaises(TooGreat):
                    nest_at(Ground(p, n), number)

    def test_great_grounds(self):
        chance = random.Random(73)
        for p, n in [(13, 6), (2, 6), (11, 5)]:
            ground = Ground(p, n)
            many = count_nests(ground)
            self.assertEqual(many, math.prod((p ** m - 1) // (p - 1) for m in range(1, n + 1)))
            numbers = [0, 1, many // 2, many - 2, many - 1] + [chance.randrange(many) for _ in range(10)]
            before = None
            for number in sorted(numbers):
                nest = nest_at(ground, number)
                self.assertEqual(number_of(nest), number)
                key = normal_order(nest), digits(nest)
                self.assertTrue(before is None or before <= key)
                before = key
                if number + 1 < many:
                    self.assertEqual(number_of(next_nest(nest)), number + 1)
                    self.assertLess(key, (normal_order(next_nest(nest)), digits(next_nest(nest))))
            self.assertIsNone(next_nest(nest_at(ground, many - 1)))

    def test_small_grounds(self):
        for p in [2, 13]:
            for n in [0, 1]:
                nest = standard(Ground(p, n))
                self.assertEqual(nest_at(Ground(p, n), 0), nest)
                self.assertEqual(number_of(nest), 0)
                self.assertIsNone(next_nest(nest))
                self.assertEqual(nests_from(Ground(p, n)), [nest])
                self.assertEqual(drawn(Ground(p, n), 10 ** 60 - 1), nest)


class Lists(unittest.TestCase):
    def test_keyword_arguments(self):
        kinds = [one.kind for one in inspect.signature(nests_from).parameters.values()]
        self.assertEqual(kinds, [inspect.Parameter.POSITIONAL_OR_KEYWORD] + 2 * [inspect.Parameter.KEYWORD_ONLY])
        with self.assertRaises(TypeError):
            nests_from(Ground(2, 3), 1)

    def test_parts_of_the_list(self):
        for p, n in [(2, 0), (3, 1), (3, 2), (2, 3), (3, 3)]:
            ground = Ground(p, n)
            nests = [nest_at(ground, number) for number in range(count_nests(ground))]
            self.assertEqual(nests_from(ground), nests[:10])
            for many in [0, 1, 2, 7, 49, 50]:
                self.assertEqual(nests_from(ground, many=many), nests[:many])
                for number in [0, 1, 5, len(nests) - 1, len(nests), len(nests) + 1, 10 ** 60 - 1]:
                    self.assertEqual(nests_from(ground, number=number, many=many), nests[number:number + many])
                    self.assertEqual(nests_from(ground, many=many, number=number), nests[number:number + many])
                    self.assertEqual(nests_from(ground, number=number), nests[number:number + 10])

    def test_how_many(self):
        self.assertEqual(len(nests_from(Ground(13, 6), many=50)), 50)
        self.assertEqual(nests_from(Ground(13, 6), many=0), [])
        self.assertEqual(len(nests_from(Ground(2, 3), number=20)), 1)
        self.assertEqual(len(nests_from(Ground(2, 3), number=15)), 6)
        self.assertEqual(nests_from(Ground(2, 3), number=21), [])
        self.assertIs(type(nests_from(Ground(2, 3))), list)

    def test_a_new_list(self):
        found = nests_from(Ground(2, 3))
        found.clear()
        self.assertEqual(len(nests_from(Ground(2, 3))), 10)

    def test_drawn(self):
        for p, n in [(2, 0), (5, 1), (3, 2), (2, 3), (13, 6)]:
            ground = Ground(p, n)
            many = count_nests(ground)
            for number in [0, 1, many - 1, many, many + 1, 7 * many + many // 2, 10 ** 59, 10 ** 60 - 1]:
                self.assertEqual(drawn(ground, number), nest_at(ground, number % many))
