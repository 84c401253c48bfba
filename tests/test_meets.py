import random
import unittest

from codenests.codes import code_of, is_within
from codenests.grounds import Ground
from codenests.meets import all_codes_between, between_codes, common, complement, joined
from tests import brute

SIZES = [(2, 0), (3, 0), (2, 1), (5, 1), (2, 2), (3, 2), (7, 2), (2, 3)]


def spans_of(p, n):
    return sorted((base, brute.span(p, n, base)) for base in brute.all_bases(p, n))


def some_pairs(p, n, many, seed):
    """Pairs of codes of a ground with their rows."""
    spans = spans_of(p, n)
    chance = random.Random(seed)
    return [(chance.choice(spans), chance.choice(spans)) for _ in range(many)]


class CommonAndJoined(unittest.TestCase):
    def check(self, p, n, one, rows, other, more):
        ground = Ground(p, n)
        self.assertEqual(common(ground, one, other), brute.base_of_span(rows & more), (p, n, one, other))
        sums = frozenset(brute.plus(p, a, b) for a in rows for b in more)
        self.assertEqual(joined(ground, one, other), brute.base_of_span(sums), (p, n, one, other))

    def test_all_codes_of_small_grounds(self):
        for p, n in SIZES:
            for one, rows in spans_of(p, n):
                for other, more in spans_of(p, n):
                    self.check(p, n, one, rows, other, more)

    def test_codes_of_greater_grounds(self):
        for p, n in [(3, 3), (2, 4), (5, 3)]:
            for (one, rows), (other, more) in some_pairs(p, n, 150, p + n):
                self.check(p, n, one, rows, other, more)

    def test_the_ends_and_equal_codes(self):
        for p, n in SIZES + [(13, 6)]:
            ground = Ground(p, n)
            chosen = [base for base, _ in spans_of(p, n)] if n < 4 else [code_of(ground, [tuple(range(6))])]
            for code in chosen:
                self.assertEqual(common(ground, code, ()), ())
                self.assertEqual(common(ground, (), code), ())
                self.assertEqual(joined(ground, code, ()), code)
                self.assertEqual(joined(ground, (), code), code)
                self.assertEqual(common(ground, code, ground.units()), code)
                self.assertEqual(common(ground, ground.units(), code), code)
                self.assertEqual(joined(ground, code, ground.units()), ground.units())
                self.assertEqual(joined(ground, ground.units(), code), ground.units())
                self.assertEqual(common(ground, code, code), code)
                self.assertEqual(joined(ground, code, code), code)

    def test_ranks_in_great_grounds(self):
        chance = random.Random(41)
        for p in [2, 3, 13]:
            ground = Ground(p, 6)
            for _ in range(60):
                one, other = [code_of(ground, [tuple(chance.randrange(p) for _ in range(6))
                                               for _ in range(chance.randrange(6))]) for _ in range(2)]
                both, all_of_them = common(ground, one, other), joined(ground, one, other)
                self.assertEqual(len(both) + len(all_of_them), len(one) + len(other))
                for code in [one, other]:
                    self.assertTrue(is_within(ground, both, code) and is_within(ground, code, all_of_them))
                self.assertEqual(common(ground, one, all_of_them), one)
                self.assertEqual(joined(ground, other, both), other)
                self.assertEqual(code_of(ground, both), both)


class Complements(unittest.TestCase):
    def test_by_the_pivots(self):
        self.assertEqual(complement(Ground(3, 4), ((1, 2, 0, 1), (0, 0, 1, 2))), ((0, 1, 0, 0), (0, 0, 0, 1)))
        for p, n in SIZES:
            ground = Ground(p, n)
            for base, _ in spans_of(p, n):
                columns = [brute.first_entry(row) for row in base]
                found = complement(ground, base)
                self.assertEqual(found, tuple(ground.units()[k] for k in range(n) if k not in columns))
                self.assertEqual(common(ground, base, found), ())
                self.assertEqual(joined(ground, base, found), ground.units())

    def test_the_ends(self):
        for p, n in SIZES + [(13, 30)]:
            ground = Ground(p, n)
            self.assertEqual(complement(ground, ()), ground.units())
            self.assertEqual(complement(ground, ground.units()), ())


class Between(unittest.TestCase):
    def test_all_pairs_of_small_grounds(self):
        for p, n in SIZES:
            ground = Ground(p, n)
            spans = spans_of(p, n)
            for low, rows in spans:
                for high, more in spans:
                    if rows <= more:
                        middle = [base for base, some in spans if rows <= some <= more]
                        next_ones = [base for base in middle if len(base) == len(low) + 1]
                        self.assertEqual(between_codes(ground, low, high), sorted(next_ones))
                        wanted = sorted(middle, key=lambda base: (len(base), base))
                        self.assertEqual(all_codes_between(ground, low, high), wanted)

    def test_chosen_pairs_of_greater_grounds(self):
        for p, n in [(3, 3), (2, 4)]:
            ground = Ground(p, n)
            spans = spans_of(p, n)
            chance = random.Random(42)
            inner = [(one, other) for one in spans for other in spans if one[1] <= other[1]]
            for (low, rows), (high, more) in chance.sample(inner, 60) + [(spans[0], spans[-1])]:
                middle = [base for base, some in spans if rows <= some <= more]
                self.assertEqual(between_codes(ground, low, high),
                                 sorted(base for base in middle if len(base) == len(low) + 1))
                self.assertEqual(all_codes_between(ground, low, high),
                                 sorted(middle, key=lambda base: (len(base), base)))

    def test_equal_codes_and_codes_one_rank_apart(self):
        ground = Ground(3, 4)
        low = ((1, 0, 2, 1), (0, 1, 1, 0))
        high = joined(ground, low, ((0, 0, 1, 1),))
        self.assertEqual(between_codes(ground, low, low), [])
        self.assertEqual(all_codes_between(ground, low, low), [low])
        self.assertEqual(between_codes(ground, low, high), [high])
        self.assertEqual(all_codes_between(ground, low, high), [low, high])
        self.assertEqual(between_codes(ground, (), ()), [])
        self.assertEqual(all_codes_between(ground, (), ()), [()])
        self.assertEqual(all_codes_between(Ground(2, 0), (), ()), [()])
        self.assertEqual(between_codes(Ground(2, 0), (), ()), [])

    def test_great_lists(self):
        ground = Ground(11, 6)
        high = code_of(ground, [(1, 0, 3, 0, 4, 5), (0, 1, 1, 0, 9, 0), (0, 0, 0, 1, 1, 2), (0, 0, 0, 0, 0, 1)])
        found = between_codes(ground, (), high)
        self.assertEqual(len(found), (11 ** 4 - 1) // 10)
        self.assertEqual(found, sorted(set(found)))
        self.assertTrue(all(len(code) == 1 and is_within(ground, code, high) for code in found))
        for low in found[::300]:
            above = between_codes(ground, low, high)
            self.assertEqual(len(above), 1 + 11 + 121)
            self.assertEqual(above, sorted(set(above)))
            self.assertTrue(all(len(code) == 2 and is_within(ground, low, code) and is_within(ground, code, high)
                                for code in above))

    def test_all_codes_of_a_ground(self):
        ground = Ground(2, 5)
        found = all_codes_between(ground, (), ground.units())
        self.assertEqual(len(found), 1 + 31 + 155 + 155 + 31 + 1)
        self.assertEqual(found, sorted(set(found), key=lambda base: (len(base), base)))
