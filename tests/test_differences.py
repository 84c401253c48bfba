import itertools
import random
import unittest

from codenests.differences import order_from, order_of, table_from, table_of
from codenests.errors import UnlikeGrounds
from codenests.grounds import Ground
from codenests.meets import common
from codenests.nests import Nest, standard
from codenests.orders import is_order, turned_back
from tests import brute
from tests.anything import GREAT, NEGATIVE, deep, no_integers

SIZES = [(2, 0), (3, 0), (2, 1), (5, 1), (2, 2), (3, 2), (7, 2), (2, 3)]

F = Nest(Ground(2, 3), [((1, 0, 0),), ((1, 0, 0), (0, 1, 0))])
G = Nest(Ground(2, 3), [((1, 1, 1),), ((1, 0, 1), (0, 1, 0))])
H = Nest(Ground(2, 3), [((0, 0, 1),), ((1, 0, 0), (0, 0, 1))])


def opposite(ground):
    """The nest that goes through the unit rows from the last to the first."""
    units = ground.units()
    return Nest(ground, [units[ground.n() - i:] for i in range(1, ground.n())])


def some_nests(p, n, many, seed):
    chance = random.Random(seed)
    return [Nest(Ground(p, n), brute.random_nest(chance, p, n)) for _ in range(many)]


class OrdersAndTables(unittest.TestCase):
    def check(self, p, n, codes, others):
        ground = Ground(p, n)
        f, g = Nest(ground, codes), Nest(ground, others)
        w, t = brute.order(p, n, codes, others), brute.table(p, n, codes, others)
        self.assertEqual(order_of(f, g), w, (codes, others))
        self.assertEqual(table_of(f, g), t, (codes, others))
        self.assertEqual(table_from(w), t)
        self.assertEqual(order_from(t), w)

    def test_the_examples(self):
        self.assertEqual(order_of(F, G), (2, 1, 0))
        self.assertEqual(table_of(F, G), ((0, 0, 0, 0), (0, 0, 0, 1), (0, 0, 1, 2), (0, 1, 2, 3)))
        self.assertEqual(order_of(F, H), (1, 2, 0))
        self.assertEqual(order_of(H, F), (2, 0, 1))
        self.assertEqual(table_of(F, H), ((0, 0, 0, 0), (0, 0, 1, 1), (0, 0, 1, 2), (0, 1, 2, 3)))
        self.assertEqual(table_of(H, F), ((0, 0, 0, 0), (0, 0, 0, 1), (0, 1, 1, 2), (0, 1, 2, 3)))

    def test_all_nests_of_small_grounds(self):
        for p, n in SIZES:
            for codes, others in itertools.product(brute.all_nests(p, n), repeat=2):
                self.check(p, n, codes, others)

    def test_some_nests_of_greater_grounds(self):
        for p, n, many in [(3, 3, 150), (2, 4, 150), (5, 3, 20), (3, 4, 20), (2, 5, 40)]:
            nests = some_nests(p, n, 2 * many, 10 * p + n)
            for f, g in zip(nests[::2], nests[1::2]):
                self.check(p, n, tuple(f.codes()), tuple(g.codes()))

    def test_great_grounds(self):
        for p, n in [(13, 6), (7, 6), (2, 8), (13, 8), (2, 6)]:
            ground = Ground(p, n)
            nests = some_nests(p, n, 6, p + n) + [standard(ground), opposite(ground)]
            for f, g in itertools.product(nests, repeat=2):
                wanted = tuple(tuple(len(common(ground, f.code(i), g.code(j))) for j in range(n + 1))
                               for i in range(n + 1))
                self.assertEqual(table_of(f, g), wanted)
                self.assertEqual(table_from(order_of(f, g)), wanted)

    def test_equal_nests(self):
        for p, n in SIZES + [(3, 3), (2, 4), (13, 6)]:
            for nest in some_nests(p, n, 3, p) + [standard(Ground(p, n))]:
                self.assertEqual(order_of(nest, Nest(Ground(p, n), nest.codes())), tuple(range(n)))
                self.assertEqual(table_of(nest, nest),
                                 tuple(tuple(min(i, j) for j in range(n + 1)) for i in range(n + 1)))

    def test_the_rising_order_tells_equal_nests(self):
        for one, other in itertools.product(brute.all_nests(2, 3), repeat=2):
            order = order_of(Nest(Ground(2, 3), one), Nest(Ground(2, 3), other))
            self.assertIs(order == (0, 1, 2), one == other)

    def test_opposite_nests(self):
        for p, n in SIZES + [(3, 3), (2, 4), (13, 6), (2, 8)]:
            ground = Ground(p, n)
            for f, g in [(standard(ground), opposite(ground)), (opposite(ground), standard(ground))]:
                self.assertEqual(order_of(f, g), tuple(range(n))[::-1])
                self.assertEqual(table_of(f, g),
                                 tuple(tuple(max(i + j - n, 0) for j in range(n + 1)) for i in range(n + 1)))

    def test_both_ways_round(self):
        for p, n in [(2, 3), (3, 4), (13, 6), (2, 8)]:
            nests = some_nests(p, n, 12, 3 * p + n)
            for f, g in itertools.product(nests, repeat=2):
                self.assertEqual(order_of(g, f), turned_back(order_of(f, g)))
                self.assertEqual(table_of(g, f), tuple(zip(*table_of(f, g))))

    def test_kinds(self):
        order, table = order_of(F, G), table_of(F, G)
        self.assertIs(type(order), tuple)
        self.assertTrue(all(type(number) is int for number in order))
        for value in [table, table_from((1, 0, 2))]:
            self.assertIs(type(value), tuple)
            self.assertTrue(all(type(row) is tuple and all(type(x) is int for x in row) for row in value))

    def test_unlike_grounds(self):
        nests = [standard(Ground(p, n)) for p, n in [(2, 0), (3, 0), (2, 1), (2, 3), (3, 3), (2, 4)]]
        for f, g in itertools.permutations(nests, 2):
            for function in [order_of, table_of]:
                with self.assertRaises(UnlikeGrounds):
                    function(f, g)


class TablesOfOrders(unittest.TestCase):
    def test_there_and_back(self):
        chance = random.Random(64)
        orders = [w for n in range(6) for w in itertools.permutations(range(n))]
        for n in [6, 8, 15, 30]:
            orders += [tuple(chance.sample(range(n), n)), tuple(range(n)), tuple(range(n))[::-1]]
        for w in orders:
            table = table_from(w)
            n = len(w)
            wanted = tuple(tuple(sum(1 for a in range(i) if w[a] < j) for j in range(n + 1)) for i in range(n + 1))
            self.assertEqual(table, wanted)
            self.assertEqual(order_from(table), w)
            self.assertIs(type(order_from(table)), tuple)

    def test_no_columns_and_one_column(self):
        self.assertEqual(table_from(()), ((0,),))
        self.assertEqual(table_from((0,)), ((0, 0), (0, 1)))
        self.assertEqual(order_from(((0,),)), ())
        self.assertEqual(order_from(((0, 0), (0, 1))), (0,))

    def test_all_small_tables(self):
        for many, numbers in [(1, [-1, 0, 1, 2]), (2, [0, 1, 2])]:
            tables = {table_from(w): w for w in itertools.permutations(range(many - 1))}
            for entries in itertools.product(numbers, repeat=many * many):
                value = tuple(entries[many * k:many * k + many] for k in range(many))
                self.assertEqual(order_from(value), tables.get(value), value)
        tables = {table_from(w): w for w in itertools.permutations(range(2))}
        for entries in itertools.product([0, 1, 2], repeat=6):
            value = (entries[:3], entries[3:], (0, 1, 2))
            self.assertEqual(order_from(value), tables.get(value), value)

    def test_one_entry_changed(self):
        for n in range(1, 5):
            tables = {table_from(w): w for w in itertools.permutations(range(n))}
            for table in tables:
                for i, j in itertools.product(range(n + 1), repeat=2):
                    for entry in [table[i][j] + 1, table[i][j] - 1, GREAT, -GREAT, None, (), str(table[i][j])]:
                        row = table[i][:j] + (entry,) + table[i][j + 1:]
                        value = table[:i] + (row,) + table[i + 1:]
                        self.assertEqual(order_from(value), tables.get(value), value)

    def test_true_and_false_are_not_numbers(self):
        table = table_from((1, 0, 2))
        for i, j in itertools.product(range(4), repeat=2):
            if table[i][j] < 2:
                row = table[i][:j] + (bool(table[i][j]),) + table[i][j + 1:]
                self.assertIsNone(order_from(table[:i] + (row,) + table[i + 1:]))
        self.assertIsNone(order_from(((False,),)))
        self.assertIsNone(order_from(((False, False), (False, True))))

    def test_rows_left_out_told_twice_and_exchanged(self):
        for w in itertools.permutations(range(4)):
            table = table_from(w)
            for k in range(5):
                self.assertIsNone(order_from(table[:k] + table[k + 1:]))
                self.assertIsNone(order_from(table[:k] + table[k:k + 1] + table[k:]))
                self.assertIsNone(order_from(table[:k] + (table[k][:-1],) + table[k + 1:]))
                self.assertIsNone(order_from(table[:k] + (table[k] + (4,),) + table[k + 1:]))
                self.assertIsNone(order_from(table[:k] + (list(table[k]),) + table[k + 1:]))
                if k < 4:
                    self.assertIsNone(order_from(table[:k] + (table[k + 1], table[k]) + table[k + 2:]))
            self.assertIsNone(order_from(list(table)))
            self.assertIsNone(order_from(table[1:]))
            self.assertIsNone(order_from(tuple(row[1:] for row in table[1:])))

    def test_tables_that_grow_rightly_but_are_of_no_order(self):
        self.assertIsNone(order_from(((0, 0, 0), (0, 1, 1), (0, 2, 2))))
        self.assertIsNone(order_from(((0, 0, 0), (0, 0, 1), (0, 0, 2))))
        self.assertIsNone(order_from(((0, 0, 0), (0, 1, 1), (0, 1, 1))))
        self.assertIsNone(order_from(((1, 1, 1), (1, 2, 2), (1, 2, 3))))
        self.assertIsNone(order_from(((0, 0, 0), (0, 1, 2), (0, 1, 2))))

    def test_values_of_all_kinds(self):
        for value in no_integers() + NEGATIVE + [0, 1, GREAT, F, (F,), deep(((0,),)), ((),), ((), ()), ((0,), (0,)),
                                                 (0, 0, 0), "0", ("0",), ((0, 0, 0),), {0: 0}, (1, 2), ((0, 1),)]:
            self.assertIsNone(order_from(value), repr(value))


class Helpers(unittest.TestCase):
    def test_random_nests_are_of_many_orders(self):
        found = {order_of(f, g) for f in some_nests(2, 4, 40, 9) for g in some_nests(2, 4, 40, 10)}
        self.assertGreaterEqual(len(found), 20)
        self.assertTrue(all(is_order(4, w) for w in found))
