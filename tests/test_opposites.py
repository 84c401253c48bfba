import itertools
import unittest

from codenests.errors import UnlikeGrounds
from codenests.frames import frame_of, is_frame
from codenests.grounds import Ground
from codenests.nests import Nest, standard
from codenests.opposites import are_opposite, count_opposite, lines_of, opposite_to
from codenests.ways import deeds_apart
from tests import brute
from tests.test_differences import F, G, H, opposite, some_nests

SMALL = [(2, 0), (5, 0), (2, 1), (5, 1), (2, 2), (3, 2), (2, 3)]


def nests_of_ground(p, n):
    return [Nest(Ground(p, n), codes) for codes in brute.all_nests(p, n)]


def opposite_by_rows(f, g):
    """Whether two nests are opposite by the sentence of S9.7."""
    p, n = f.ground().p(), f.ground().n()
    one, other = brute.chain_of(p, n, f.codes()), brute.chain_of(p, n, g.codes())
    return all(len(one[i] & other[n - i]) == 1 for i in range(n + 1))


def lines_by_rows(f, g):
    p, n = f.ground().p(), f.ground().n()
    one, other = brute.chain_of(p, n, f.codes()), brute.chain_of(p, n, g.codes())
    return [brute.base_of_span(one[i + 1] & other[n - i]) for i in range(n)]


class Opposite(unittest.TestCase):
    def test_all_nests_of_small_grounds(self):
        for p, n in SMALL:
            for f, g in itertools.product(nests_of_ground(p, n), repeat=2):
                wanted = opposite_by_rows(f, g)
                self.assertIs(are_opposite(f, g), wanted)
                self.assertEqual(wanted, deeds_apart(f, g) == n * (n - 1) // 2)
                self.assertEqual(lines_of(f, g), lines_by_rows(f, g) if wanted else None)

    def test_greater_grounds(self):
        kinds = set()
        for p, n, many in [(3, 3, 30), (2, 4, 60), (13, 3, 8)]:
            for f, g in zip(some_nests(p, n, many, 1), some_nests(p, n, many, 2)):
                wanted = opposite_by_rows(f, g)
                self.assertIs(are_opposite(f, g), wanted)
                self.assertEqual(lines_of(f, g), lines_by_rows(f, g) if wanted else None)
                kinds.add(wanted)
        self.assertEqual(kinds, {True, False})

    def test_chosen_ones(self):
        self.assertIs(are_opposite(F, G), True)
        self.assertIs(are_opposite(F, H), False)
        self.assertEqual(lines_of(F, G), [((1, 0, 0),), ((0, 1, 0),), ((1, 1, 1),)])
        self.assertEqual(lines_of(G, F), [((1, 1, 1),), ((0, 1, 0),), ((1, 0, 0),)])
        self.assertIsNone(lines_of(F, H))
        for p, n in [(13, 6), (2, 6)]:
            ground = Ground(p, n)
            self.assertIs(are_opposite(standard(ground), opposite(ground)), True)
            self.assertEqual(lines_of(standard(ground), opposite(ground)), [(row,) for row in ground.units()])

    def test_small_grounds(self):
        for p in [2, 13]:
            none, one = standard(Ground(p, 0)), standard(Ground(p, 1))
            self.assertIs(are_opposite(none, none), True)
            self.assertIs(are_opposite(one, one), True)
            self.assertEqual(lines_of(none, none), [])
            self.assertEqual(lines_of(one, one), [((1,),)])

    def test_lines_make_all_frames(self):
        for f, g in [(F, G), (G, F), (standard(Ground(3, 2)), opposite(Ground(3, 2)))]:
            p, n = f.ground().p(), f.ground().n()
            lines = lines_of(f, g)
            for rows in itertools.product(brute.rows_of_length(p, n), repeat=n):
                made = all(any(row) and row in brute.span(p, n, line) for row, line in zip(rows, lines))
                self.assertIs(is_frame(f, g, rows), made)
            self.assertEqual([brute.echelon(p, [row]) for row in frame_of(f, g)], lines)

    def test_how_many(self):
        for p, n in SMALL + [(3, 3), (2, 4)]:
            nests = nests_of_ground(p, n)
            for f in nests[::len(nests) // 3 + 1]:
                self.assertEqual(count_opposite(f.ground()), sum(opposite_by_rows(f, g) for g in nests))
        self.assertEqual(count_opposite(Ground(13, 6)), 13 ** 15)
        self.assertEqual(count_opposite(Ground(2, 3)), 8)

    def test_a_new_list(self):
        found = lines_of(F, G)
        self.assertIs(type(found), list)
        found.clear()
        self.assertEqual(len(lines_of(F, G)), 3)

    def test_unlike_grounds(self):
        nests = [standard(Ground(p, n)) for p, n in [(2, 0), (3, 0), (2, 1), (2, 3), (3, 3), (2, 4)]]
        for f, g in itertools.permutations(nests, 2):
            for function in [are_opposite, lines_of]:
                with self.assertRaises(UnlikeGrounds):
                    function(f, g)
            for passed in [[f, g], (f, g), [f, f, g], [f] * 7 + [g]]:
                with self.assertRaises(UnlikeGrounds):
                    opposite_to(passed)


class OppositeToAll(unittest.TestCase):
    def check(self, nests, there_is_one):
        found = opposite_to(nests)
        self.assertEqual(opposite_to(tuple(nests)), found)
        self.assertIs(found is not None, there_is_one)
        if there_is_one:
            self.assertTrue(all(opposite_by_rows(found, nest) for nest in nests))

    def test_up_to_p_nests(self):
        for p, n in SMALL + [(3, 3)]:
            nests = nests_of_ground(p, n)
            for many in range(1, p + 1):
                for chosen in list(itertools.product(nests[::len(nests) // 12 + 1], repeat=min(many, 3)))[::7]:
                    self.check(list(chosen) + nests[:many - len(chosen)], True)

    def test_great_grounds(self):
        for p, n in [(13, 3), (7, 4), (3, 6), (2, 6), (5, 4), (11, 3), (13, 2)]:
            nests = some_nests(p, n, min(p, 8), 3)
            found = opposite_to(nests)
            self.assertTrue(all(are_opposite(found, nest) for nest in nests))
            ground = Ground(p, n)
            close = [standard(ground)] * (min(p, 8) - 1) + [opposite(ground)]
            self.assertTrue(all(are_opposite(opposite_to(close), nest) for nest in close))

    def test_more_nests(self):
        kinds = []
        for p, n, longest in [(2, 2, 4), (3, 2, 5), (2, 3, 8), (3, 3, 8), (2, 4, 8)]:
            nests = nests_of_ground(p, n)
            chosen = some_nests(p, n, 60, 10 * p + n)
            for many in range(p + 1, longest + 1):
                for start in range(0, 24, 3):
                    passed = chosen[start:start + many]
                    there_is_one = any(all(are_opposite(nest, other) for other in passed) for nest in nests)
                    self.check(passed, there_is_one)
                    kinds.append((many > p, there_is_one))
        self.assertEqual(set(kinds), {(True, True), (True, False)})

    def test_all_triples_of_a_small_ground(self):
        nests = nests_of_ground(2, 3)
        apart = {(i, k) for i, f in enumerate(nests) for k, g in enumerate(nests) if opposite_by_rows(f, g)}
        for chosen in itertools.combinations(range(len(nests)), 3):
            there_is_one = any(all((i, k) in apart for k in chosen) for i in range(len(nests)))
            found = opposite_to([nests[k] for k in chosen])
            self.assertIs(found is not None, there_is_one)
            self.assertTrue(found is None or all((nests.index(found), k) in apart for k in chosen))

    def test_many_nests_of_the_greatest_grounds(self):
        for p, n in [(3, 4), (2, 6), (7, 2), (5, 2)]:
            nests = some_nests(p, n, 8, 4)
            found = opposite_to(nests)
            self.assertTrue(found is None or all(are_opposite(found, nest) for nest in nests))

    def test_rows_that_lead_nowhere(self):
        # All lines of one code of rank 2 are taken: each code of rank n - 1
        # has one of them, but lesser codes need not.
        for p, n in [(2, 3), (2, 4), (3, 3), (3, 4)]:
            ground = Ground(p, n)
            units = ground.units()
            lines = [brute.echelon(p, [(a, b) + (0,) * (n - 2)]) for a, b in [(0, 1)] + [(1, k) for k in range(p)]]
            nests = [Nest(ground, [line] + [units[:i] for i in range(2, n)]) for line in lines]
            self.assertIsNone(opposite_to(nests))
            for k in range(p + 1):
                self.assertIsNotNone(opposite_to(nests[:k] + nests[k + 1:]))

    def test_all_nests_of_a_ground(self):
        for p in [2, 3, 5, 7]:
            self.check(nests_of_ground(p, 2), False)
            self.check(nests_of_ground(p, 2)[:-1], True)
            self.check(nests_of_ground(p, 2)[1:], True)
        self.check(nests_of_ground(2, 3), False)

    def test_the_same_nest_twice(self):
        for p, n in SMALL + [(2, 4)]:
            for nest in some_nests(p, n, 3, 5):
                self.check([nest] * 2, True)
                self.check([nest] * 8, True)
        lines = nests_of_ground(2, 2)
        self.check(lines + lines, False)
        self.check(lines[:2] * 3, True)

    def test_small_grounds(self):
        for p in [2, 13]:
            for n in [0, 1]:
                nest = standard(Ground(p, n))
                for many in [1, 2, 3, 8]:
                    self.assertEqual(opposite_to([nest] * many), nest)
