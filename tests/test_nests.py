import unittest

from codenests.codecounts import all_codes
from codenests.codes import check_code
from codenests.errors import BadCode, BadNest, NoLevel
from codenests.grounds import Ground
from codenests.nests import Nest, standard
from codenests.parts import Part
from tests import brute
from tests.anything import GREAT, NEGATIVE, no_integers

SIZES = [(2, 0), (3, 0), (2, 1), (5, 1), (2, 2), (3, 2), (13, 2), (2, 3), (3, 3)]

C1 = ((1, 0, 2, 0),)
C2 = ((1, 0, 2, 0), (0, 1, 1, 0))
C3 = ((1, 0, 2, 0), (0, 1, 1, 0), (0, 0, 0, 1))


def path_of(ground, codes):
    try:
        Nest(ground, codes)
    except BadNest as error:
        return error.path
    return None


class Making(unittest.TestCase):
    def test_all_nests(self):
        for p, n in SIZES:
            ground = Ground(p, n)
            for codes in brute.all_nests(p, n):
                for passed in [codes, list(codes)]:
                    nest = Nest(ground, passed)
                    self.assertEqual(nest.codes(), list(codes))
                    self.assertEqual(nest.ground(), ground)

    def test_all_tuples_of_codes(self):
        for p, n in [(2, 2), (3, 2), (2, 3), (3, 3)]:
            ground = Ground(p, n)
            nests = set(brute.all_nests(p, n))
            bases = brute.all_bases(p, n)
            values = [(one,) for one in bases] if n == 2 else [(one, other) for one in bases for other in bases]
            for codes in values:
                if codes in nests:
                    self.assertIsNone(path_of(ground, codes))
                else:
                    first_fits = len(codes[0]) == 1
                    self.assertEqual(path_of(ground, codes), (1,) if first_fits else (0,), codes)
                    self.assertEqual(path_of(ground, list(codes)), (1,) if first_fits else (0,), codes)

    def test_no_list_of_as_many_codes(self):
        ground = Ground(3, 4)
        for value in no_integers() + NEGATIVE + [0, 3, GREAT, Nest(ground, [C1, C2, C3]), {0: C1, 1: C2, 2: C3}]:
            self.assertEqual(path_of(ground, value), (), repr(value))
        for value in [[], [C1], [C1, C2], [C1, C2, C3, C3], [(), C1, C2, C3], [None] * 2, [None] * 4]:
            self.assertEqual(path_of(ground, value), (), repr(value))
            self.assertEqual(path_of(ground, tuple(value)), (), repr(value))

    def test_no_columns_and_one_column(self):
        for n in [0, 1]:
            ground = Ground(5, n)
            for value in [[], ()]:
                self.assertEqual(Nest(ground, value).codes(), [])
            for value in [[()], ((),), [ground.units()], [None], None, {}, "", 0, False]:
                self.assertEqual(path_of(ground, value), (), repr(value))

    def test_codes_and_rows_are_tuples(self):
        ground = Ground(3, 4)
        self.assertEqual(path_of(ground, [list(C1), C2, C3]), (0,))
        self.assertEqual(path_of(ground, [C1, list(C2), C3]), (1,))
        self.assertEqual(path_of(ground, [C1, C2, (C3[0], list(C3[1]), C3[2])]), (2, 1))

    def test_a_value_that_is_no_code(self):
        ground = Ground(3, 4)
        wrong = no_integers() + NEGATIVE + [0, ((0, 0, 0, 0),), ((1, 0, 3, 0),), ((1, 0, 0, True),), ((2, 0, 0, 0),),
                                            ((1, 0, 0),), C1 + C1, C2 + C2 + C2, C2 + ((0, 0, 1, None),),
                                            ((1, 0, 2, 0), [0, 1, 1, 0]), ((0, 1, 0, 0), (1, 0, 0, 0))]
        for value in wrong:
            try:
                check_code(ground, value)
            except BadCode as error:
                path = error.path
                self.assertEqual(path_of(ground, [value, C2, C3]), (0,) + path, repr(value))
                self.assertEqual(path_of(ground, [C1, value, C3]), (1,) + path, repr(value))
                self.assertEqual(path_of(ground, (C1, C2, value)), (2,) + path, repr(value))
            else:
                self.assertEqual(value, ())

    def test_paths_of_the_three_lengths(self):
        ground = Ground(3, 4)
        self.assertEqual(path_of(ground, [C1, None, C3]), (1,))
        self.assertEqual(path_of(ground, [C1, C2 + ((0, 0, 1),), C3]), (1, 2))
        self.assertEqual(path_of(ground, [C1, (C2[0], (0, 1, 1, 5)), C3]), (1, 1, 3))

    def test_a_code_of_another_rank(self):
        ground = Ground(3, 4)
        for k in range(3):
            for other in [(), C1, C2, C3, ground.units()]:
                if len(other) != k + 1:
                    codes = [C1, C2, C3]
                    codes[k] = other
                    self.assertEqual(path_of(ground, codes), (k,), (k, other))

    def test_a_code_that_does_not_contain_the_one_before(self):
        ground = Ground(3, 4)
        for code in all_codes(ground, 2):
            held = set(brute.span(3, 4, C1)) <= set(brute.span(3, 4, code))
            after = set(brute.span(3, 4, code)) <= set(brute.span(3, 4, C3))
            wanted = (1,) if not held else (2,) if not after else None
            self.assertEqual(path_of(ground, [C1, code, C3]), wanted, code)

    def test_all_of_one_code_is_looked_at_ahead_of_the_next(self):
        ground = Ground(3, 4)
        apart = ((0, 0, 1, 0), (0, 0, 0, 1))
        self.assertEqual(path_of(ground, [C2, None, None]), (0,))
        self.assertEqual(path_of(ground, [C2, C2, ((1, 9, 0, 0),)]), (0,))
        self.assertEqual(path_of(ground, [C1, apart, None]), (1,))
        self.assertEqual(path_of(ground, [C1, apart, ((7, 0, 0, 0),)]), (1,))
        self.assertEqual(path_of(ground, [((1, 0, 5, 0),), C1, None]), (0, 0, 2))


class Codes(unittest.TestCase):
    def test_code(self):
        for p, n in SIZES:
            ground = Ground(p, n)
            for codes in brute.all_nests(p, n)[:20]:
                nest = Nest(ground, codes)
                whole = ((),) + codes + (ground.units(),) if n > 0 else ((),)
                for i in range(n + 1):
                    self.assertEqual(nest.code(i), whole[i])

    def test_no_level(self):
        for p, n in SIZES[:7]:
            nest = standard(Ground(p, n))
            for value in NEGATIVE + [n + 1, n + 2, GREAT] + no_integers() + [nest, [nest]]:
                with self.assertRaises(NoLevel) as caught:
                    nest.code(value)
                self.assertIs(caught.exception.level, value)

    def test_it_does_not_keep_the_list_that_was_passed(self):
        passed = [C1, C2, C3]
        nest = Nest(Ground(3, 4), passed)
        passed[0] = None
        passed.append(C1)
        nest.codes().clear()
        self.assertEqual(nest.codes(), [C1, C2, C3])
        self.assertEqual(nest.code(1), C1)


class Equality(unittest.TestCase):
    def test_nests(self):
        ground = Ground(2, 3)
        nests = brute.all_nests(2, 3)
        for one in nests:
            for other in nests:
                same = one == other
                self.assertIs(Nest(ground, one) == Nest(Ground(2, 3), list(other)), same)
                self.assertIs(Nest(ground, one) != Nest(Ground(2, 3), list(other)), not same)

    def test_grounds_count(self):
        self.assertIs(standard(Ground(2, 3)) == standard(Ground(3, 3)), False)
        self.assertIs(standard(Ground(2, 0)) == standard(Ground(2, 1)), False)
        self.assertIs(standard(Ground(2, 0)) == standard(Ground(3, 0)), False)
        self.assertIs(standard(Ground(2, 1)) == standard(Ground(3, 1)), False)
        self.assertIs(standard(Ground(5, 1)) == standard(Ground(5, 1)), True)

    def test_other_things(self):
        ground = Ground(3, 4)
        nest = Nest(ground, [C1, C2, C3])
        for value in [(C1, C2, C3), [C1, C2, C3], ground, None, 0, "nest", {}, True, [nest], Part(ground, [C1, C2, C3])]:
            self.assertIs(nest == value, False, repr(value))
            self.assertIs(value == nest, False, repr(value))


class Standard(unittest.TestCase):
    def test_the_codes(self):
        self.assertEqual(standard(Ground(2, 3)).codes(), [((1, 0, 0),), ((1, 0, 0), (0, 1, 0))])
        for p, n in SIZES:
            nest = standard(Ground(p, n))
            self.assertEqual(nest.ground(), Ground(p, n))
            self.assertEqual(len(nest.codes()), max(n - 1, 0))
            for i in range(n + 1):
                rows = frozenset(row for row in brute.rows_of_length(p, n) if not any(row[i:]))
                self.assertEqual(nest.code(i), brute.base_of_span(rows))
