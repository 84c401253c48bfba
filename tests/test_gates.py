import itertools
import unittest

from codenests.counting import count_over
from codenests.differences import order_of
from codenests.errors import TooGreat, UnlikeGrounds
from codenests.gates import all_over, count_over_order, gate, inversions_within
from codenests.grounds import Ground
from codenests.nests import Nest, standard
from codenests.parts import Part, is_over, part_of
from codenests.ways import deeds_apart, near_code
from tests import brute
from tests.test_differences import some_nests
from tests.test_parts import subsets

SMALL = [(2, 0), (5, 0), (2, 1), (5, 1), (2, 2), (3, 2), (2, 3)]

# The example of S9.2.
K = Part(Ground(2, 3), [((1, 0, 0), (0, 1, 0))])
C = Nest(Ground(2, 3), [((1, 0, 1),), ((1, 0, 1), (0, 1, 1))])


def nests_of_ground(p, n):
    return [Nest(Ground(p, n), codes) for codes in brute.all_nests(p, n)]


def parts_of_ground(p, n):
    """All partial nests of a small ground."""
    found = {chosen for codes in brute.all_nests(p, n) for chosen in subsets(codes)}
    return [Part(Ground(p, n), codes) for codes in sorted(found)]


def some_parts(p, n, many, seed):
    """Partial nests with codes at levels of all kinds."""
    found = []
    for k, nest in enumerate(some_nests(p, n, many, seed)):
        levels = [i for i in range(1, n) if (k >> (i - 1)) & 1]
        found.append(part_of(nest, levels))
    return found


def over_by_rows(p, n, part):
    """The tuples of codes of all nests over a partial nest, ascending."""
    return [codes for codes in brute.all_nests(p, n) if set(part.codes()) <= set(codes)]


def gate_by_rows(part, nest):
    """The codes of the gate by the words of S9.2, from the sets of all rows."""
    p, n = nest.ground().p(), nest.ground().n()
    units = [tuple(int(k == j) for j in range(n)) for k in range(n)]
    ends = [brute.span(p, n, code) for code in [[]] + part.codes() + ([units] if n else [])]
    found = []
    for low, high in zip(ends, ends[1:]):
        for one in brute.chain_of(p, n, nest.codes()):
            code = brute.base_of_span(frozenset(brute.plus(p, a, b) for a in low for b in high & one))
            if code not in found:
                found.append(code)
    return [code for code in found if 0 < len(code) < n]


def within_by_words(part, w):
    """The inversions of an order of which both positions belong to one step."""
    ends = (0,) + part.ranks() + (part.ground().n(),)
    return sum(w[a] > w[b] for low, high in zip(ends, ends[1:])
               for a, b in itertools.combinations(range(low, high), 2))


class Gates(unittest.TestCase):
    def test_the_example(self):
        found = gate(K, C)
        self.assertEqual(found, Nest(Ground(2, 3), [((1, 1, 0),), ((1, 0, 0), (0, 1, 0))]))
        self.assertEqual(order_of(found, C), (1, 2, 0))
        for row in [(1, 0, 0), (0, 1, 0)]:
            other = Nest(Ground(2, 3), [(row,), ((1, 0, 0), (0, 1, 0))])
            self.assertEqual(order_of(other, C), (2, 1, 0))
            self.assertEqual(deeds_apart(other, found), 1)

    def test_against_the_words(self):
        for p, n in SMALL:
            for part in parts_of_ground(p, n):
                for nest in nests_of_ground(p, n):
                    self.assertEqual(gate(part, nest).codes(), gate_by_rows(part, nest))
        for p, n in [(3, 3), (2, 4)]:
            for part, nest in zip(some_parts(p, n, 40, 1), some_nests(p, n, 40, 2)):
                self.assertEqual(gate(part, nest).codes(), gate_by_rows(part, nest))

    def test_the_nearest_of_all_nests_over_it(self):
        for p, n in SMALL:
            nests = nests_of_ground(p, n)
            for part in parts_of_ground(p, n):
                over = [nest for nest in nests if is_over(nest, part)]
                for nest in nests:
                    found = gate(part, nest)
                    self.assertIn(found, over)
                    for other in over:
                        self.assertEqual(deeds_apart(nest, other), deeds_apart(nest, found) + deeds_apart(found, other))

    def test_greater_grounds(self):
        for p, n, many in [(3, 3, 12), (2, 4, 12), (13, 6, 32)]:
            for part, nest, other in zip(some_parts(p, n, many, 3), some_nests(p, n, many, 4),
                                         some_nests(p, n, many, 5)):
                found = gate(part, nest)
                self.assertTrue(is_over(found, part))
                self.assertLessEqual(deeds_apart(found, gate(part, other)), deeds_apart(nest, other))
                over = gate(part, other)
                self.assertEqual(deeds_apart(nest, over), deeds_apart(nest, found) + deeds_apart(found, over))
                self.assertEqual(gate(part, found), found)

    def test_without_codes_and_with_all_of_a_nest(self):
        for p, n in SMALL + [(3, 4), (13, 6)]:
            for nest, other in itertools.product(some_nests(p, n, 3, 6), repeat=2):
                self.assertEqual(gate(Part(nest.ground(), []), nest), nest)
                self.assertEqual(gate(Part(nest.ground(), other.codes()), nest), other)

    def test_all_codes_of_a_nest_but_one(self):
        for p, n in [(2, 2), (2, 3), (3, 4), (13, 6)]:
            nests = some_nests(p, n, 8, 7)
            for nest, other in zip(nests, nests[1:]):
                for level in range(1, n):
                    part = part_of(other, [i for i in range(1, n) if i != level])
                    codes = other.codes()
                    codes[level - 1] = near_code(other, nest, level)
                    self.assertEqual(gate(part, nest).codes(), codes)

    def test_small_grounds(self):
        for p in [2, 13]:
            for n in [0, 1]:
                nest = standard(Ground(p, n))
                part = Part(Ground(p, n), [])
                self.assertEqual(gate(part, nest), nest)
                self.assertEqual(inversions_within(part, tuple(range(n))), 0)
                self.assertEqual(count_over_order(part, nest, tuple(range(n))), 1)
                self.assertEqual(all_over(part), [nest])


class Within(unittest.TestCase):
    def test_all_small_orders(self):
        for p, n in [(2, 0), (3, 1), (3, 2), (2, 3), (2, 4)]:
            nest = standard(Ground(p, n))
            for levels in subsets(range(1, n)):
                part = part_of(nest, levels)
                for w in itertools.permutations(range(n)):
                    self.assertEqual(inversions_within(part, w), within_by_words(part, w))

    def test_chosen_ones(self):
        nest = standard(Ground(13, 6))
        w = (5, 4, 3, 2, 1, 0)
        self.assertEqual(inversions_within(part_of(nest, []), w), 15)
        self.assertEqual(inversions_within(part_of(nest, [3]), w), 6)
        self.assertEqual(inversions_within(part_of(nest, [2, 4]), w), 3)
        self.assertEqual(inversions_within(part_of(nest, [1, 2, 3, 4, 5]), w), 0)
        self.assertEqual(inversions_within(part_of(nest, [1]), w), 10)

    def test_they_are_the_deeds_from_the_gate(self):
        for p, n in SMALL:
            for part in parts_of_ground(p, n):
                for nest in nests_of_ground(p, n)[::2]:
                    for codes in over_by_rows(p, n, part):
                        other = Nest(nest.ground(), codes)
                        self.assertEqual(inversions_within(part, order_of(other, nest)),
                                         deeds_apart(gate(part, nest), other))


class OverAnOrder(unittest.TestCase):
    def check(self, part, nest, orders):
        for w in itertools.permutations(range(nest.ground().n())):
            self.assertEqual(count_over_order(part, nest, w), orders.count(w))

    def test_small_grounds(self):
        for p, n in SMALL:
            for part in parts_of_ground(p, n):
                for nest in nests_of_ground(p, n):
                    orders = [order_of(Nest(nest.ground(), codes), nest) for codes in over_by_rows(p, n, part)]
                    self.check(part, nest, orders)

    def test_some_greater_grounds(self):
        for p, n in [(3, 3), (2, 4)]:
            for part, nest in zip(some_parts(p, n, 16, 8), some_nests(p, n, 16, 9)):
                orders = [order_of(Nest(nest.ground(), codes), nest) for codes in over_by_rows(p, n, part)]
                self.check(part, nest, orders)

    def test_all_orders_together(self):
        for part, nest in zip(some_parts(13, 5, 16, 10)[::3], some_nests(13, 5, 16, 11)):
            total = sum(count_over_order(part, nest, w) for w in itertools.permutations(range(5)))
            self.assertEqual(total, count_over(part))


class Over(unittest.TestCase):
    def test_all_parts_of_small_grounds(self):
        for p, n in SMALL:
            for part in parts_of_ground(p, n):
                found = all_over(part)
                self.assertEqual([tuple(nest.codes()) for nest in found], over_by_rows(p, n, part))
                self.assertIs(type(found), list)

    def test_greater_grounds(self):
        for p, n in [(3, 3), (2, 4)]:
            for part in some_parts(p, n, 8, 12):
                self.assertEqual([tuple(nest.codes()) for nest in all_over(part)], over_by_rows(p, n, part))
        for p, n in [(13, 6), (2, 6)]:
            for part in [part for part in some_parts(p, n, 32, 13) if count_over(part) <= 2000]:
                found = [tuple(nest.codes()) for nest in all_over(part)]
                self.assertEqual(found, sorted(set(found)))
                self.assertEqual(len(found), count_over(part))
                self.assertTrue(all(set(part.codes()) <= set(codes) for codes in found))

    def test_too_great(self):
        for p, n, levels in [(13, 3, []), (2, 5, []), (13, 6, [1, 2, 5]), (13, 6, [2]), (2, 6, [1])]:
            part = part_of(standard(Ground(p, n)), levels)
            self.assertGreater(count_over(part), 2000)
            with self.assertRaises(TooGreat):
                all_over(part)
        self.assertEqual(len(all_over(Part(Ground(11, 3), []))), 1596)

    def test_the_nearest_numbers_to_two_thousand(self):
        part = part_of(standard(Ground(11, 6)), [2, 4])
        self.assertEqual(len(all_over(part)), 1728)
        part = part_of(standard(Ground(3, 6)), [4, 5])
        self.assertEqual(count_over(part), 2080)
        with self.assertRaises(TooGreat):
            all_over(part)

    def test_a_new_list(self):
        found = all_over(K)
        found.clear()
        self.assertEqual(len(all_over(K)), 3)


class Unlike(unittest.TestCase):
    def test_unlike_grounds(self):
        nests = [standard(Ground(p, n)) for p, n in [(2, 0), (3, 0), (2, 1), (2, 3), (3, 3), (2, 4)]]
        for nest, other in itertools.permutations(nests, 2):
            part = Part(other.ground(), other.codes())
            with self.assertRaises(UnlikeGrounds):
                gate(part, nest)
            for w in [tuple(range(nest.ground().n())), tuple(range(other.ground().n()))]:
                with self.assertRaises(UnlikeGrounds):
                    count_over_order(part, nest, w)
