import unittest

from codenests.errors import BadGround
from codenests.grounds import Ground, is_prime
from tests.anything import GREAT, NEGATIVE, no_integers

SMALL_PRIMES = [2, 3, 5, 7, 11, 13]


class Primes(unittest.TestCase):
    def test_all_numbers_to_the_limit(self):
        # The sieve: what is left is a multiple of no lesser prime.
        left = [False, False] + [True] * 9999
        for k in range(2, 10001):
            if left[k]:
                for multiple in range(2 * k, 10001, k):
                    left[multiple] = False
        for k in range(10001):
            self.assertIs(is_prime(k), left[k], k)

    def test_what_is_no_number(self):
        for value in NEGATIVE + no_integers():
            self.assertIs(is_prime(value), False, repr(value))


class Making(unittest.TestCase):
    def path_of(self, p, n):
        with self.assertRaises(BadGround) as caught:
            Ground(p, n)
        return caught.exception.path

    def test_p_is_no_prime(self):
        for p in NEGATIVE + [0, 1, 4, 6, 9, 15, 25, 49, 91, 9999, 10000] + no_integers():
            self.assertEqual(self.path_of(p, 2), (0,), repr(p))

    def test_n_is_no_number(self):
        for n in NEGATIVE + no_integers():
            self.assertEqual(self.path_of(3, n), (1,), repr(n))

    def test_p_is_told_first(self):
        for p in [4, True, None, "2", [2]]:
            for n in [-1, False, None, "x", (1,)]:
                self.assertEqual(self.path_of(p, n), (0,), (p, n))

    def test_what_was_passed(self):
        for p in SMALL_PRIMES + [9973]:
            for n in [0, 1, 2, 6, 30]:
                ground = Ground(p, n)
                self.assertEqual((ground.p(), ground.n()), (p, n))


class Rows(unittest.TestCase):
    def test_zero(self):
        self.assertEqual(Ground(3, 0).zero(), ())
        self.assertEqual(Ground(3, 1).zero(), (0,))
        self.assertEqual(Ground(2, 4).zero(), (0, 0, 0, 0))
        self.assertEqual(Ground(13, 30).zero(), (0,) * 30)

    def test_units(self):
        self.assertEqual(Ground(3, 0).units(), ())
        self.assertEqual(Ground(3, 1).units(), ((1,),))
        self.assertEqual(Ground(2, 3).units(), ((1, 0, 0), (0, 1, 0), (0, 0, 1)))
        units = Ground(13, 30).units()
        self.assertEqual(len(units), 30)
        for k, row in enumerate(units):
            self.assertEqual(row, (0,) * k + (1,) + (0,) * (29 - k))


class Inverses(unittest.TestCase):
    def test_the_example(self):
        self.assertEqual(Ground(5, 2).inverse_of(2), 3)

    def test_all_numbers(self):
        for p in SMALL_PRIMES + [101, 9973]:
            ground = Ground(p, 1)
            self.assertIsNone(ground.inverse_of(0))
            for number in range(1, p):
                inverse = ground.inverse_of(number)
                self.assertTrue(0 < inverse < p)
                self.assertEqual(number * inverse % p, 1, (p, number))

    def test_they_do_not_hang_on_n(self):
        for n in [0, 1, 30]:
            self.assertIsNone(Ground(7, n).inverse_of(0))
            self.assertEqual(Ground(7, n).inverse_of(3), 5)


class Equality(unittest.TestCase):
    def test_equal_and_unequal_grounds(self):
        for p in [2, 3, 5]:
            for n in [0, 1, 2, 3, 5]:
                for q in [2, 3, 5]:
                    for m in [0, 1, 2, 3, 5]:
                        same = (p, n) == (q, m)
                        self.assertIs(Ground(p, n) == Ground(q, m), same)
                        self.assertIs(Ground(p, n) != Ground(q, m), not same)

    def test_other_things(self):
        ground = Ground(2, 3)
        for value in [(2, 3), [2, 3], 2, 8, "Ground", None, True, {}, {"p": 2, "n": 3}, [ground], (ground,)]:
            self.assertIs(ground == value, False, repr(value))
            self.assertIs(value == ground, False, repr(value))
