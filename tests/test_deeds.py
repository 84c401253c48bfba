import unittest

from codenests.codecounts import code_at, count_codes
from codenests.deeds import all_deeds, deeds_at, done, is_deed, taken_back
from codenests.errors import BadDeed, NoLevel
from codenests.grounds import Ground
from codenests.nests import Nest, standard
from tests import brute
from tests.anything import GREAT, NEGATIVE, deep, no_integers

# Grounds, each with the step at which its nests are looked through.
SIZES = [(2, 2, 1), (3, 2, 1), (7, 2, 1), (2, 3, 1), (3, 3, 1), (5, 3, 17), (2, 4, 9)]

# All deeds and values that are looked at, at the standard nest of this ground.
GROUND = Ground(2, 3)
NEST = standard(GROUND)


def wrong_values():
    fitting = ((0, 1, 0),)
    wrong = no_integers() + NEGATIVE + [0, 1, GREAT, deep(1), NEST, GROUND]
    wrong += [(1,), (1, fitting, 0), [1, fitting], (1, [(0, 1, 0)]), (1, ([0, 1, 0],)), ((1, fitting),), "1a"]
    wrong += [(level, fitting) for level in no_integers() + NEGATIVE + [0, 2, 3, 4, GREAT]]
    wrong += [(1, code) for code in no_integers() + NEGATIVE + [0, 1, GREAT]]
    wrong += [(1, code) for code in [((0, 1, 2),), ((0, True, 0),), ((0, 0, 0),), ((0, 1),), ((0, 1, 0, 0),)]]
    wrong += [(1, ((1, 0, 0),)), (1, ((0, 0, 1),)), (1, ()), (1, ((1, 0, 0), (0, 1, 0))), (1, GROUND.units())]
    wrong += [(2, ((1, 0, 0), (0, 1, 0))), (2, ((0, 1, 0), (0, 0, 1))), (2, ((0, 1, 0),)), (2, GROUND.units())]
    wrong += [(0, ()), (3, GROUND.units()), (0, fitting), (3, ((1, 0, 0), (0, 0, 1)))]
    wrong += [(2, ((0, 0, 1), (1, 0, 0))), (2, ((1, 0, 0), (1, 0, 1))), {1: fitting}]
    return wrong


class Deeds(unittest.TestCase):
    def test_the_example(self):
        self.assertEqual(deeds_at(NEST, 1), [(1, ((0, 1, 0),)), (1, ((1, 1, 0),))])
        self.assertEqual(done(NEST, (1, ((1, 1, 0),))), Nest(GROUND, [((1, 1, 0),), ((1, 0, 0), (0, 1, 0))]))
        self.assertEqual(deeds_at(NEST, 2), [(2, ((1, 0, 0), (0, 0, 1))), (2, ((1, 0, 0), (0, 1, 1)))])
        self.assertEqual(all_deeds(NEST), deeds_at(NEST, 1) + deeds_at(NEST, 2))

    def test_all_codes_at_all_levels(self):
        for p, n, step in SIZES:
            ground = Ground(p, n)
            spans = {base: brute.span(p, n, base) for base in brute.all_bases(p, n)}
            for codes in brute.all_nests(p, n)[::step]:
                nest = Nest(ground, codes)
                chain = [spans[()]] + [spans[code] for code in codes] + [spans[ground.units()]]
                found = []
                for level in range(1, n):
                    fitting = []
                    for code, rows in spans.items():
                        right = (len(code) == level and code != codes[level - 1]
                                 and chain[level - 1] <= rows <= chain[level + 1])
                        self.assertIs(is_deed(nest, (level, code)), right, (codes, level, code))
                        if right:
                            fitting.append((level, code))
                    self.assertEqual(len(fitting), p)
                    self.assertEqual(deeds_at(nest, level), sorted(fitting))
                    found.extend(sorted(fitting))
                self.assertEqual(all_deeds(nest), found)

    def test_done_and_taken_back(self):
        for p, n, step in SIZES:
            ground = Ground(p, n)
            for codes in brute.all_nests(p, n)[::step]:
                nest = Nest(ground, codes)
                for level, code in all_deeds(nest):
                    wanted = codes[:level - 1] + (code,) + codes[level:]
                    behind = done(nest, (level, code))
                    self.assertEqual(behind, Nest(ground, wanted))
                    self.assertEqual(nest, Nest(ground, codes))
                    back = taken_back(nest, (level, code))
                    self.assertEqual(back, (level, codes[level - 1]))
                    self.assertIs(type(back), tuple)
                    self.assertEqual(done(behind, back), nest)
                    self.assertEqual(taken_back(behind, back), (level, code))

    def test_values_that_are_no_deeds(self):
        for value in wrong_values():
            self.assertIs(is_deed(NEST, value), False, repr(value))
            for function in [done, taken_back]:
                with self.assertRaises(BadDeed) as caught:
                    function(NEST, value)
                self.assertEqual(caught.exception.number, 0)
                self.assertIs(type(caught.exception.number), int)

    def test_a_code_must_contain_and_be_contained(self):
        ground = Ground(2, 4)
        nest = standard(ground)
        for wanted, code in [(True, ((1, 0, 0, 0), (0, 0, 1, 0))), (True, ((1, 0, 0, 0), (0, 1, 1, 0))),
                             (False, ((0, 1, 0, 0), (0, 0, 1, 0))), (False, ((1, 0, 0, 0), (0, 0, 0, 1))),
                             (False, ((1, 0, 0, 0), (0, 1, 0, 0))), (False, ((1, 0, 1, 0), (0, 1, 0, 0)))]:
            self.assertIs(is_deed(nest, (2, code)), wanted, code)

    def test_small_grounds_have_no_deeds(self):
        for n in [0, 1]:
            nest = standard(Ground(3, n))
            self.assertEqual(all_deeds(nest), [])
            for value in [(0, ()), (1, ((1,),)), (1, ()), (0, ((1,),)), (), None, (n, nest.code(n))]:
                self.assertIs(is_deed(nest, value), False, repr(value))
                with self.assertRaises(BadDeed):
                    done(nest, value)

    def test_no_level(self):
        for n in [0, 1, 2, 3, 6]:
            nest = standard(Ground(3, n))
            for value in [0, n, n + 1, GREAT] + NEGATIVE + no_integers():
                with self.assertRaises(NoLevel) as caught:
                    deeds_at(nest, value)
                self.assertIs(caught.exception.level, value)

    def test_great_grounds(self):
        ground = Ground(13, 6)
        nest = standard(ground)
        nest = done(nest, deeds_at(nest, 3)[5])
        nest = done(nest, deeds_at(nest, 4)[12])
        for level in range(1, 6):
            deeds = deeds_at(nest, level)
            self.assertEqual(len(deeds), 13)
            self.assertEqual(deeds, sorted(set(deeds)))
            self.assertTrue(all(is_deed(nest, deed) for deed in deeds))
            for number in range(0, count_codes(ground, level), count_codes(ground, level) // 40 + 1):
                code = code_at(ground, level, number)
                self.assertIs(is_deed(nest, (level, code)), (level, code) in deeds)
