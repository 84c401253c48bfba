import itertools
import unittest

from codenests.codes import check_code
from codenests.errors import BadCode, BadPart, UnlikeGrounds
from codenests.grounds import Ground
from codenests.nests import Nest, standard
from codenests.parts import Part, is_over, part_of
from tests import brute
from tests.anything import GREAT, NEGATIVE, no_integers

C1 = ((1, 0, 2, 0),)
C2 = ((1, 0, 2, 0), (0, 1, 1, 0))
C3 = ((1, 0, 2, 0), (0, 1, 1, 0), (0, 0, 0, 1))


def path_of(ground, codes):
    try:
        Part(ground, codes)
    except BadPart as error:
        return error.path
    return None


def subsets(things):
    return [chosen for many in range(len(things) + 1) for chosen in itertools.combinations(things, many)]


class Making(unittest.TestCase):
    def test_all_tuples_of_codes(self):
        for p, n, longest in [(2, 0, 2), (2, 1, 2), (3, 1, 2), (2, 2, 2), (3, 2, 2), (2, 3, 3), (3, 3, 2)]:
            ground = Ground(p, n)
            spans = {base: brute.span(p, n, base) for base in brute.all_bases(p, n)}
            for many in range(longest + 1):
                for codes in itertools.product(spans, repeat=many):
                    wanted = None
                    for k, code in enumerate(codes):
                        rank = len(code)
                        right = 0 < rank < n and (k == 0 or (
                            len(codes[k - 1]) < rank and spans[codes[k - 1]] <= spans[code]))
                        if not right:
                            wanted = (k,)
                            break
                    self.assertEqual(path_of(ground, codes), wanted, (p, n, codes))

    def test_what_it_tells(self):
        ground = Ground(3, 4)
        for codes in subsets([C1, C2, C3]):
            for passed in [codes, list(codes)]:
                part = Part(ground, passed)
                ranks = tuple(len(code) for code in codes)
                self.assertEqual(part.ground(), ground)
                self.assertEqual(part.codes(), list(codes))
                self.assertEqual(part.ranks(), ranks)
                ends = (0,) + ranks + (4,)
                self.assertEqual(part.blocks(), tuple(ends[k + 1] - ends[k] for k in range(len(ranks) + 1)))

    def test_blocks(self):
        self.assertEqual(Part(Ground(2, 0), []).blocks(), ())
        self.assertEqual(Part(Ground(2, 0), []).ranks(), ())
        self.assertEqual(Part(Ground(2, 1), []).blocks(), (1,))
        self.assertEqual(Part(Ground(2, 6), []).blocks(), (6,))
        self.assertEqual(Part(Ground(3, 4), [C1, C3]).blocks(), (1, 2, 1))
        self.assertEqual(Part(Ground(3, 4), [C2]).blocks(), (2, 2))
        self.assertEqual(Part(Ground(3, 4), [C1, C2, C3]).blocks(), (1, 1, 1, 1))

    def test_no_list(self):
        ground = Ground(3, 4)
        for value in no_integers() + NEGATIVE + [0, 1, GREAT, Part(ground, [C1]), {0: C1}]:
            if not isinstance(value, (list, tuple)):
                self.assertEqual(path_of(ground, value), (), repr(value))
        self.assertEqual(path_of(Ground(2, 0), None), ())
        self.assertIsNone(path_of(ground, []))
        self.assertIsNone(path_of(ground, ()))

    def test_codes_and_rows_are_tuples(self):
        ground = Ground(3, 4)
        self.assertEqual(path_of(ground, [list(C1), C2]), (0,))
        self.assertEqual(path_of(ground, [C1, (list(C2[0]), C2[1])]), (1, 0))

    def test_a_value_that_is_no_code(self):
        ground = Ground(3, 4)
        wrong = no_integers() + NEGATIVE + [0, ((0, 0, 0, 0),), ((1, 0, 3, 0),), ((1, 0, 0, True),), ((2, 0, 0, 0),),
                                            ((1, 0, 0),), C1 + C1, C2 + C2 + C2, C2 + ((0, 0, 1, None),)]
        for value in wrong:
            try:
                check_code(ground, value)
            except BadCode as error:
                path = error.path
                self.assertEqual(path_of(ground, [value]), (0,) + path, repr(value))
                self.assertEqual(path_of(ground, (C1, value, None)), (1,) + path, repr(value))
                self.assertEqual(path_of(ground, [C1, C2, C3, value]), (3,) + path, repr(value))

    def test_ranks_and_members(self):
        ground = Ground(3, 4)
        units = ground.units()
        for path, codes in [((0,), [()]), ((0,), [units]), ((1,), [C1, units]), ((1,), [C1, ()]), ((1,), [C1, C1]),
                            ((1,), [C2, C1]), ((2,), [C1, C2, C2]), ((3,), [C1, C2, C3, C3]),
                            ((3,), [C1, C2, C3, units]), ((0,), [(), C1]), ((1,), [C1, ((0, 1, 0, 0), (0, 0, 1, 0))]),
                            ((1,), [((0, 0, 0, 1),), C2]), ((1,), [C1, ((0, 0, 0, 1),)])]:
            self.assertEqual(path_of(ground, codes), path, codes)
            self.assertEqual(path_of(ground, tuple(codes)), path, codes)

    def test_all_of_one_code_is_looked_at_ahead_of_the_next(self):
        ground = Ground(3, 4)
        self.assertEqual(path_of(ground, [(), None]), (0,))
        self.assertEqual(path_of(ground, [C2, C1, ((9, 0, 0, 0),)]), (1,))
        self.assertEqual(path_of(ground, [C2, ((1, 0, 0, 9),), ()]), (1, 0, 3))

    def test_no_columns_and_one_column(self):
        for n in [0, 1]:
            ground = Ground(2, n)
            self.assertEqual(Part(ground, []).codes(), [])
            self.assertEqual(path_of(ground, [()]), (0,))
            self.assertEqual(path_of(ground, [ground.units()]), (0,))
            self.assertEqual(path_of(ground, [None]), (0,))

    def test_it_does_not_keep_the_list_that_was_passed(self):
        passed = [C1, C3]
        part = Part(Ground(3, 4), passed)
        passed.clear()
        part.codes().clear()
        self.assertEqual(part.codes(), [C1, C3])
        self.assertEqual(part.ranks(), (1, 3))


class Equality(unittest.TestCase):
    def test_parts(self):
        chosen = subsets([C1, C2, C3]) + [(((0, 1, 0, 0),),)]
        for one in chosen:
            for other in chosen:
                same = one == other
                self.assertIs(Part(Ground(3, 4), one) == Part(Ground(3, 4), list(other)), same)
                self.assertIs(Part(Ground(3, 4), one) != Part(Ground(3, 4), list(other)), not same)

    def test_grounds_count(self):
        self.assertIs(Part(Ground(2, 3), []) == Part(Ground(3, 3), []), False)
        self.assertIs(Part(Ground(2, 3), []) == Part(Ground(2, 4), []), False)
        self.assertIs(Part(Ground(2, 3), [((1, 0, 0),)]) == Part(Ground(3, 3), [((1, 0, 0),)]), False)

    def test_a_nest_is_no_partial_nest(self):
        for p, n in [(2, 0), (2, 1), (2, 2), (3, 4)]:
            nest = standard(Ground(p, n))
            part = Part(Ground(p, n), nest.codes())
            self.assertIs(nest == part, False)
            self.assertIs(part == nest, False)
            self.assertIs(part != nest, True)

    def test_other_things(self):
        part = Part(Ground(3, 4), [C1, C2])
        for value in [(C1, C2), [C1, C2], Ground(3, 4), None, 0, "part", {}, True, [part]]:
            self.assertIs(part == value, False, repr(value))
            self.assertIs(value == part, False, repr(value))


class PartsOfNests(unittest.TestCase):
    def test_part_of(self):
        nest = Nest(Ground(3, 4), [C1, C2, C3])
        for levels in subsets([1, 2, 3]):
            wanted = Part(Ground(3, 4), [(C1, C2, C3)[level - 1] for level in levels])
            for passed in [levels, list(levels)]:
                self.assertEqual(part_of(nest, passed), wanted)
                self.assertEqual(part_of(nest, passed).ranks(), levels)
            self.assertIs(is_over(nest, wanted), True)
        self.assertEqual(part_of(standard(Ground(2, 0)), []), Part(Ground(2, 0), []))
        self.assertEqual(part_of(standard(Ground(2, 1)), []), Part(Ground(2, 1), []))

    def test_is_over(self):
        ground = Ground(2, 3)
        nests = brute.all_nests(2, 3)
        parts = {chosen for codes in nests for chosen in subsets(codes)}
        for codes in nests:
            for chosen in parts:
                wanted = set(chosen) <= set(codes)
                self.assertIs(is_over(Nest(ground, codes), Part(ground, chosen)), wanted, (codes, chosen))

    def test_unlike_grounds(self):
        for one, other in [((2, 3), (3, 3)), ((2, 3), (2, 4)), ((2, 0), (2, 1)), ((2, 0), (3, 0)), ((3, 3), (2, 3))]:
            with self.assertRaises(UnlikeGrounds):
                is_over(standard(Ground(*one)), Part(Ground(*other), []))
        with self.assertRaises(UnlikeGrounds):
            is_over(standard(Ground(2, 3)), Part(Ground(3, 3), [((1, 0, 0),)]))
        self.assertIs(is_over(standard(Ground(2, 3)), Part(Ground(2, 3), [])), True)
        self.assertIs(is_over(standard(Ground(2, 0)), Part(Ground(2, 0), [])), True)
