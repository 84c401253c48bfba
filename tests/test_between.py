import itertools
import unittest

from codenests.below import count_below, falling
from codenests.between import all_between, count_between, is_between, nest_between
from codenests.differences import order_of
from codenests.errors import UnlikeGrounds
from codenests.frames import nests_of
from codenests.grounds import Ground
from codenests.nests import Nest, standard
from codenests.orders import turned_back
from codenests.scripts import steps
from codenests.ways import deeds_apart, kept_levels, way
from tests import brute
from tests.anything import GREAT, NEGATIVE, deep, no_integers
from tests.test_differences import F, G, H, opposite, some_nests

# Grounds, each with the step at which the pairs of its nests are looked through.
SIZES = [(2, 0, 1), (5, 0, 1), (2, 1, 1), (5, 1, 1), (2, 2, 1), (3, 2, 1), (2, 3, 1), (3, 3, 17)]

MIDDLE = Nest(Ground(2, 3), [((1, 0, 0),), ((1, 0, 0), (0, 0, 1))])


def small_grounds():
    """For each ground its nests, the pairs that are looked at and the distances."""
    for p, n, step in SIZES:
        nests = brute.all_nests(p, n)
        yield Ground(p, n), nests, list(itertools.product(nests, repeat=2))[::step], brute.distances(p, n)


def some_pairs(p, n, many, seed):
    nests = some_nests(p, n, 2 * many, seed)
    return list(zip(nests[::2], nests[1::2]))


class IsBetween(unittest.TestCase):
    def test_the_example(self):
        for nest in [F, MIDDLE, H]:
            self.assertIs(is_between(F, nest, H), True)
        self.assertIs(is_between(F, G, H), False)
        self.assertIs(is_between(F, H, MIDDLE), False)

    def test_by_the_fewest_deeds(self):
        for ground, nests, pairs, away in small_grounds():
            for f, g in pairs[::3]:
                for h in nests:
                    right = away[f][h] + away[h][g] == away[f][g]
                    self.assertIs(is_between(Nest(ground, f), Nest(ground, h), Nest(ground, g)), right)

    def test_all_nests_of_fewest_ways_are_between(self):
        for p, n in [(3, 4), (2, 5), (13, 6)]:
            for f, g in some_pairs(p, n, 3, p):
                left = order_of(f, g)
                levels = []
                while list(left) != sorted(left):
                    levels.append(max(i for i in range(1, n) if left[i - 1] > left[i]))
                    left = brute.exchanged(left, levels[-1])
                for h in steps(f, way(f, g, levels)):
                    self.assertIs(is_between(f, h, g), True)


class AllBetween(unittest.TestCase):
    def test_the_example(self):
        self.assertEqual(all_between(F, H), [F, MIDDLE, H])
        self.assertEqual(count_between(F, H), 3)
        self.assertEqual(all_between(F, F), [F])
        self.assertEqual(len(all_between(F, G)), 6)

    def test_in_order_and_each_once(self):
        for ground, nests, pairs, away in small_grounds():
            for f, g in pairs:
                wanted = sorted((away[f][h], h) for h in nests if away[f][h] + away[h][g] == away[f][g])
                found = all_between(Nest(ground, f), Nest(ground, g))
                self.assertEqual([tuple(h.codes()) for h in found], [h for _, h in wanted])
                self.assertEqual(count_between(Nest(ground, f), Nest(ground, g)), len(wanted))
                self.assertIs(type(found), list)
                self.assertTrue(all(type(h) is Nest and h.ground() == ground for h in found))

    def test_greater_grounds(self):
        for p, n, many in [(2, 4, 12), (3, 4, 6), (13, 4, 3), (2, 5, 3), (3, 5, 2)]:
            ground = Ground(p, n)
            for f, g in some_pairs(p, n, many, p + n) + [(standard(ground), opposite(ground))]:
                found = all_between(f, g)
                keys = [(deeds_apart(f, h), tuple(h.codes())) for h in found]
                self.assertEqual(keys, sorted(set(keys)))
                self.assertEqual(len(found), count_between(f, g))
                self.assertEqual((found[0], found[-1]), (f, g))
                for h in found:
                    self.assertEqual(deeds_apart(f, h) + deeds_apart(h, g), deeds_apart(f, g))
                    for level in kept_levels(f, g):
                        self.assertEqual(h.code(level), f.code(level))

    def test_the_number_depends_on_the_order_alone(self):
        for n in range(5):
            for w in itertools.permutations(range(n)):
                counts = set()
                for p in [2, 3, 13]:
                    f, g = nests_of(Ground(p, n), Ground(p, n).units(), w)
                    counts.add(count_between(f, g))
                    counts.add(count_between(g, f))
                self.assertEqual(counts, {sum(brute.turned(v) <= brute.turned(w)
                                              for v in itertools.permutations(range(n)))})

    def test_opposite_nests(self):
        for n, many in [(0, 1), (1, 1), (2, 2), (3, 6), (4, 24), (5, 120)]:
            ground = Ground(3, n)
            self.assertEqual(count_between(standard(ground), opposite(ground)), many)
            self.assertEqual(len(all_between(standard(ground), opposite(ground))), many)

    def test_the_orders_towards_g_are_those_below(self):
        for f, g in some_pairs(2, 4, 10, 16):
            w = order_of(f, g)
            found = {order_of(h, g) for h in all_between(f, g)}
            self.assertEqual(found, {v for v in itertools.permutations(range(4)) if brute.turned(v) <= brute.turned(w)})
            self.assertEqual(len(found), count_below(w))


class NestBetween(unittest.TestCase):
    def test_the_example(self):
        self.assertEqual(nest_between(F, H, (0, 1, 2)), F)
        self.assertEqual(nest_between(F, H, (0, 2, 1)), MIDDLE)
        self.assertEqual(nest_between(F, H, (2, 0, 1)), H)
        for order in [(1, 0, 2), (1, 2, 0), (2, 1, 0)]:
            self.assertIsNone(nest_between(F, H, order))

    def check(self, f, g):
        n = f.ground().n()
        by_order = {order_of(h, f): h for h in all_between(f, g)}
        w = order_of(f, g)
        for u in itertools.permutations(range(n)):
            fits = all(w[a] > w[b] for a in range(n) for b in range(a + 1, n) if u.index(b) < u.index(a))
            self.assertIs(u in by_order, fits)
            self.assertEqual(nest_between(f, g, u), by_order.get(u))

    def test_all_orders(self):
        for ground, _, pairs, _ in small_grounds():
            for f, g in pairs[::2]:
                self.check(Nest(ground, f), Nest(ground, g))
        for p, n in [(2, 4), (3, 4), (13, 4)]:
            for f, g in some_pairs(p, n, 4, p * p):
                self.check(f, g)

    def test_great_grounds(self):
        for p, n in [(13, 6), (2, 8)]:
            ground = Ground(p, n)
            f, g = standard(ground), opposite(ground)
            for u in [tuple(range(n)), falling(n), (1, 0) + tuple(range(2, n)), tuple(range(1, n)) + (0,)]:
                self.assertEqual(order_of(nest_between(f, g, u), f), u)
                self.assertIs(is_between(f, nest_between(f, g, u), g), True)
            for f, g in some_pairs(p, n, 3, n):
                self.assertEqual(nest_between(f, g, tuple(range(n))), f)
                self.assertEqual(nest_between(f, g, turned_back(order_of(f, g))), g)

    def test_values_that_are_no_order(self):
        for value in no_integers() + NEGATIVE + [0, 1, 3, GREAT, F, deep((0, 1)), [0, 1, 2], (0, 1), (0, 1, 2, 3),
                                                 (0, 0, 1), (0, True, 2), (False, 1, 2), (1, 2, 3), (0, 1, -1), (0, 1, None)]:
            self.assertIsNone(nest_between(F, H, value), repr(value))
            self.assertIsNone(nest_between(F, G, value), repr(value))

    def test_no_columns_and_one_column(self):
        none, one = standard(Ground(3, 0)), standard(Ground(3, 1))
        self.assertEqual(nest_between(none, none, ()), none)
        self.assertEqual(nest_between(one, one, (0,)), one)
        for value in [None, [], [0], (1,), (False,), ((),)]:
            self.assertIsNone(nest_between(none, none, value))
            self.assertIsNone(nest_between(one, one, value))


class Unlike(unittest.TestCase):
    def test_unlike_grounds_come_first(self):
        nests = [standard(Ground(p, n)) for p, n in [(2, 0), (3, 0), (2, 1), (2, 3), (3, 3), (2, 4)]]
        for f, g in itertools.permutations(nests, 2):
            for function in [all_between, count_between]:
                with self.assertRaises(UnlikeGrounds):
                    function(f, g)
            for value in [None, (), (0, 1, 2), [1], 7]:
                with self.assertRaises(UnlikeGrounds):
                    nest_between(f, g, value)
            for three in [(f, f, g), (f, g, f), (g, f, f), (f, g, g)]:
                with self.assertRaises(UnlikeGrounds):
                    is_between(*three)
