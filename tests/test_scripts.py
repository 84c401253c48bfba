import random
import unittest

from codenests.deeds import all_deeds, done, taken_back
from codenests.errors import BadDeed
from codenests.grounds import Ground
from codenests.nests import Nest, standard
from codenests.scripts import first_bad, levels_of, steps, turned_back, walked
from tests.anything import GREAT, NEGATIVE, no_integers

NEST = standard(Ground(2, 3))
FIRST = (1, ((1, 1, 0),))
SECOND = (2, ((1, 1, 0), (0, 0, 1)))
THIRD = (1, ((0, 0, 1),))
SCRIPT = [FIRST, SECOND, THIRD]
NESTS = [NEST, Nest(Ground(2, 3), [((1, 1, 0),), ((1, 0, 0), (0, 1, 0))]),
         Nest(Ground(2, 3), [((1, 1, 0),), ((1, 1, 0), (0, 0, 1))]),
         Nest(Ground(2, 3), [((0, 0, 1),), ((1, 1, 0), (0, 0, 1))])]


def random_script(chance, nest, many):
    """A script and the nests that it comes through."""
    script = []
    nests = [nest]
    for _ in range(many):
        script.append(chance.choice(all_deeds(nests[-1])))
        nests.append(done(nests[-1], script[-1]))
    return script, nests


class Scripts(unittest.TestCase):
    def test_a_script_and_its_beginnings(self):
        for many in range(4):
            for script in [SCRIPT[:many], tuple(SCRIPT[:many])]:
                self.assertEqual(steps(NEST, script), NESTS[:many + 1])
                self.assertIs(type(steps(NEST, script)), list)
                self.assertEqual(walked(NEST, script), NESTS[many])
                self.assertIsNone(first_bad(NEST, script))
                self.assertEqual(levels_of(script), [1, 2, 1][:many])

    def test_turned_back(self):
        wanted = [(1, ((1, 1, 0),)), (2, ((1, 0, 0), (0, 1, 0))), (1, ((1, 0, 0),))]
        self.assertEqual(turned_back(NEST, SCRIPT), wanted)
        self.assertEqual(turned_back(NEST, tuple(SCRIPT)), wanted)
        self.assertEqual(turned_back(NEST, SCRIPT[:1]), wanted[2:])
        self.assertEqual(turned_back(NEST, []), [])
        self.assertEqual(turned_back(NEST, ()), [])

    def test_long_scripts(self):
        chance = random.Random(51)
        for p, n, many in [(2, 2, 20), (13, 2, 10), (2, 3, 60), (3, 4, 30), (13, 6, 12)]:
            script, nests = random_script(chance, standard(Ground(p, n)), many)
            self.assertEqual(steps(nests[0], script), nests)
            self.assertEqual(walked(nests[0], tuple(script)), nests[-1])
            self.assertIsNone(first_bad(nests[0], script))
            back = turned_back(nests[0], script)
            self.assertEqual(back, [taken_back(at, deed) for at, deed in zip(nests, script)][::-1])
            self.assertEqual(steps(nests[-1], back), nests[::-1])
            self.assertEqual(turned_back(nests[-1], back), script)
            self.assertEqual(levels_of(back), levels_of(script)[::-1])

    def test_no_deeds_in_small_grounds(self):
        for n in [0, 1]:
            nest = standard(Ground(5, n))
            self.assertEqual(walked(nest, []), nest)
            self.assertEqual(steps(nest, ()), [nest])
            self.assertEqual(turned_back(nest, []), [])
            self.assertIsNone(first_bad(nest, []))
            self.assertEqual(first_bad(nest, [(1, ((1,),))]), 0)


class WrongScripts(unittest.TestCase):
    def check(self, script, number):
        for passed in [list(script), tuple(script)]:
            for function in [walked, steps, turned_back]:
                with self.assertRaises(BadDeed) as caught:
                    function(NEST, passed)
                self.assertEqual(caught.exception.number, number, script)
            self.assertEqual(first_bad(NEST, passed), number, script)
            self.assertIs(type(first_bad(NEST, passed)), int)

    def test_members_of_all_kinds(self):
        for wrong in no_integers() + NEGATIVE + [0, GREAT, list(FIRST), (1,), (True, ((1, 1, 0),)), (3, ((1, 1, 0),))]:
            for number in range(4):
                self.check(SCRIPT[:number] + [wrong] + SCRIPT[number:], number)
                self.check(SCRIPT[:number] + [wrong], number)
                self.check(SCRIPT[:number] + [wrong, wrong, None], number)

    def test_deeds_that_can_be_done_elsewhere_alone(self):
        self.check([SECOND], 0)
        self.check([FIRST, THIRD], 1)
        self.check([FIRST, FIRST], 1)
        self.check([FIRST, SECOND, FIRST], 2)
        self.check([FIRST, SECOND, THIRD, SECOND], 3)
        self.check([THIRD, FIRST], 0)

    def test_neither_list_nor_tuple(self):
        for value in no_integers() + NEGATIVE + [0, 1, GREAT, NEST, {1: FIRST}, "script"]:
            if not isinstance(value, (list, tuple)):
                self.assertEqual(first_bad(NEST, value), 0, repr(value))
                self.assertIs(type(first_bad(NEST, value)), int)


class Levels(unittest.TestCase):
    def test_any_list_of_pairs(self):
        for pairs, levels in [([], []), ([(7, ())], [7]), ([(0, ((),)), (GREAT, ((1, 2), (3,)))], [0, GREAT]),
                              ([(3, ((1,),)), (3, ((1,),)), (1, ())], [3, 3, 1])]:
            self.assertEqual(levels_of(pairs), levels)
            self.assertEqual(levels_of(tuple(pairs)), levels)
            self.assertIs(type(levels_of(tuple(pairs))), list)
