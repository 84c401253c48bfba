import itertools
import random
import unittest

from codenests.deeds import all_deeds
from codenests.differences import order_of
from codenests.errors import UnlikeGrounds
from codenests.goals import barred_levels, left_after, nest_beside, waste
from codenests.grounds import Ground
from codenests.nests import Nest, standard
from codenests.scripts import steps, turned_back, walked
from codenests.ways import any_way, change, deeds_apart
from tests import brute
from tests.test_differences import F, G, H, some_nests

SIZES = [(2, 0), (5, 0), (2, 1), (5, 1), (2, 2), (3, 2), (2, 3)]


def some_script(nest, many, chance):
    script = []
    for _ in range(many if nest.ground().n() > 1 else 0):
        script.append(chance.choice(all_deeds(walked(nest, script))))
    return script


def beside_by_rows(f, g):
    """The codes of two nests beside one another, from the sets of all rows."""
    p, n, m = f.ground().p(), f.ground().n(), g.ground().n()
    one, other = brute.chain_of(p, n, f.codes()), brute.chain_of(p, m, g.codes())
    sets = [{row + (0,) * m for row in rows} for rows in one]
    sets += [{row + end for row in brute.rows_of_length(p, n) for end in rows} for rows in other[1:]]
    return [brute.base_of_span(frozenset(rows)) for rows in sets[1:-1]]


class LeftAndWaste(unittest.TestCase):
    def test_small_grounds(self):
        chance = random.Random(101)
        for p, n in SIZES:
            away = brute.distances(p, n)
            for f, g in itertools.product(some_nests(p, n, 5, 1), repeat=2):
                for many in [0, 1, 2, 5]:
                    script = some_script(f, many, chance)
                    wanted = [away[tuple(nest.codes())][tuple(g.codes())] for nest in steps(f, script)]
                    for passed in [script, tuple(script)]:
                        found = left_after(f, g, passed)
                        self.assertEqual(found, wanted)
                        self.assertIs(type(found), list)
                        self.assertEqual(waste(f, g, passed), len(script) - wanted[0] + wanted[-1])

    def test_the_changes_of_the_deeds(self):
        chance = random.Random(102)
        for p, n in [(2, 3), (3, 3), (2, 4), (13, 4)]:
            for f, g in itertools.product(some_nests(p, n, 3, 2), repeat=2):
                script = some_script(f, 8, chance)
                changes = [change(nest, g, deed) for nest, deed in zip(steps(f, script), script)]
                self.assertEqual(waste(f, g, script), 2 * changes.count(1) + changes.count(0))
                lefts = left_after(f, g, script)
                self.assertEqual([b - a for a, b in zip(lefts, lefts[1:])], changes)

    def test_fewest_ways(self):
        for f, g in itertools.product([F, G, H] + some_nests(2, 3, 4, 3), repeat=2):
            script = any_way(f, g)
            self.assertEqual(left_after(f, g, script), list(range(len(script), -1, -1)))
            self.assertEqual(waste(f, g, script), 0)
            self.assertEqual(waste(f, g, []), 0)
            self.assertEqual(left_after(f, g, []), [len(script)])
            there_and_back = script + turned_back(f, script)
            self.assertEqual(waste(f, g, there_and_back), 2 * len(script))
            self.assertEqual(waste(f, f, there_and_back), 2 * len(script))

    def test_sixty_deeds(self):
        turn = [(1, ((1, 1, 0),)), (1, ((1, 0, 0),))]
        self.assertEqual(waste(F, F, turn * 30), 60)
        self.assertEqual(left_after(F, F, turn * 30), [0] + [1, 0] * 30)


class Barred(unittest.TestCase):
    def test_any_order_and_twice(self):
        chance = random.Random(103)
        for p, n in [(2, 2), (2, 3), (2, 4), (13, 6), (2, 6)]:
            nests = some_nests(p, n, 6, 4)
            nests += [walked(nests[0], some_script(nests[0], 2, chance)) for _ in range(3)]
            for f, g in itertools.product(nests, repeat=2):
                for _ in range(4):
                    levels = [chance.randrange(1, n) for _ in range(chance.randrange(8))]
                    wanted = [i for i in range(1, n) if i in levels and f.code(i) != g.code(i)]
                    for passed in [levels, tuple(levels), levels[::-1], levels + levels]:
                        found = barred_levels(f, g, passed)
                        self.assertEqual(found, wanted)
                        self.assertIs(type(found), list)

    def test_chosen_ones(self):
        self.assertEqual(barred_levels(F, G, [2, 1, 2, 2]), [1, 2])
        self.assertEqual(barred_levels(F, F, [2, 1, 2]), [])
        self.assertEqual(barred_levels(F, walked(F, [(2, ((1, 0, 0), (0, 0, 1)))]), [2, 1, 1]), [2])
        self.assertEqual(barred_levels(F, G, []), [])
        for n in [0, 1]:
            nest = standard(Ground(3, n))
            self.assertEqual(barred_levels(nest, nest, []), [])


class Beside(unittest.TestCase):
    def test_small_grounds(self):
        for p, n, m in [(2, 0, 0), (2, 0, 1), (2, 1, 0), (3, 1, 1), (2, 0, 3), (2, 3, 0), (2, 1, 2), (2, 2, 1),
                        (2, 2, 2), (3, 2, 1), (2, 3, 1), (2, 3, 2)]:
            for f, g in itertools.product(some_nests(p, n, 4, 5), some_nests(p, m, 4, 6)):
                found = nest_beside(f, g)
                self.assertEqual(found, Nest(Ground(p, n + m), beside_by_rows(f, g)))

    def test_no_columns_on_either_side(self):
        for p, n in SIZES + [(13, 6)]:
            for nest in some_nests(p, n, 3, 7):
                none = standard(Ground(p, 0))
                self.assertEqual(nest_beside(nest, none), nest)
                self.assertEqual(nest_beside(none, nest), nest)

    def test_orders(self):
        for p, n, m in [(2, 2, 3), (3, 3, 1), (13, 4, 4), (2, 2, 6), (2, 0, 3)]:
            for f, f2 in itertools.product(some_nests(p, n, 4, 8), repeat=2):
                for g, g2 in zip(some_nests(p, m, 4, 9), some_nests(p, m, 4, 10)):
                    one, other = nest_beside(f, g), nest_beside(f2, g2)
                    wanted = order_of(f, f2) + tuple(n + number for number in order_of(g, g2))
                    self.assertEqual(order_of(one, other), wanted)
                    self.assertEqual(deeds_apart(one, other), deeds_apart(f, f2) + deeds_apart(g, g2))

    def test_standard_nests(self):
        for p, n, m in [(2, 2, 3), (13, 4, 4), (3, 0, 2)]:
            self.assertEqual(nest_beside(standard(Ground(p, n)), standard(Ground(p, m))), standard(Ground(p, n + m)))


class Unlike(unittest.TestCase):
    def test_unlike_grounds_come_first(self):
        nests = [standard(Ground(p, n)) for p, n in [(2, 0), (3, 0), (2, 1), (2, 3), (3, 3), (2, 4)]]
        for f, g in itertools.permutations(nests, 2):
            for function in [left_after, waste, barred_levels]:
                with self.assertRaises(UnlikeGrounds):
                    function(f, g, [])
                with self.assertRaises(UnlikeGrounds):
                    function(f, g, ())
            script = [] if f.ground().n() < 2 else all_deeds(f)[:1]
            for function in [left_after, waste]:
                with self.assertRaises(UnlikeGrounds):
                    function(f, g, script)

    def test_unlike_primes(self):
        for p, q in itertools.permutations([2, 3, 13], 2):
            for n, m in itertools.product([0, 1, 3], repeat=2):
                with self.assertRaises(UnlikeGrounds):
                    nest_beside(standard(Ground(p, n)), standard(Ground(q, m)))
