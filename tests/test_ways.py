import itertools
import random
import unittest

from codenests.deeds import all_deeds, deeds_at, done
from codenests.differences import order_of
from codenests.errors import BadDeed, BadLevels, NoLevel, UnlikeGrounds
from codenests.grounds import Ground
from codenests.nests import Nest, standard
from codenests.orders import inversions, sorting_steps
from codenests.scripts import steps, walked
from codenests.ways import (any_way, begins, change, deeds_apart, first_deeds, judge_way, kept_levels, near_code,
                            nearest, way)
from tests import brute, test_deeds
from tests.anything import GREAT, NEGATIVE, deep, no_integers
from tests.test_differences import F, G, H, opposite, some_nests
from tests.test_levelrows import fault

SIZES = [(2, 0), (5, 0), (2, 1), (5, 1), (2, 2), (3, 2), (2, 3)]


def all_pairs(p, n, step=1):
    ground = Ground(p, n)
    nests = [Nest(ground, codes) for codes in brute.all_nests(p, n)]
    return list(itertools.product(nests, repeat=2))[::step]


def some_pairs(p, n, many, seed):
    nests = some_nests(p, n, 2 * many, seed)
    return list(zip(nests[::2], nests[1::2]))


def pairs_of_all_kinds():
    for p, n in SIZES:
        yield from all_pairs(p, n)
    for p, n, many in [(3, 3, 30), (2, 4, 30), (5, 3, 8), (3, 4, 6)]:
        yield from some_pairs(p, n, many, 100 * p + n)


def near_by_rows(f, g, level):
    """The near code by S5.1, from the sets of all rows."""
    p, n = f.ground().p(), f.ground().n()
    one, other = brute.chain_of(p, n, f.codes()), brute.chain_of(p, n, g.codes())
    w = brute.order(p, n, f.codes(), g.codes())
    shared = one[level + 1] & other[min(w[level - 1], w[level]) + 1]
    return brute.base_of_span(frozenset(brute.plus(p, a, b) for a in one[level - 1] for b in shared))


class NearCodes(unittest.TestCase):
    def test_the_example(self):
        self.assertEqual(near_code(F, H, 2), ((1, 0, 0), (0, 0, 1)))
        self.assertEqual(near_code(F, H, 1), F.code(1))
        self.assertEqual(near_code(done(F, (2, ((1, 0, 0), (0, 0, 1)))), H, 1), ((0, 0, 1),))

    def test_each_level(self):
        for f, g in pairs_of_all_kinds():
            for level in range(1, f.ground().n()):
                near = near_code(f, g, level)
                self.assertEqual(near, near_by_rows(f, g, level))
                if level not in sorting_steps(order_of(f, g)):
                    self.assertEqual(near, f.code(level))

    def test_great_grounds(self):
        for p, n in [(13, 6), (2, 8)]:
            for f, g in some_pairs(p, n, 3, p):
                order = order_of(f, g)
                for level in range(1, n):
                    near = near_code(f, g, level)
                    for code in [f.code(level)] + [code for _, code in deeds_at(f, level)]:
                        after = order_of(Nest(f.ground(), f.codes()[:level - 1] + [code] + f.codes()[level:]), g)
                        lesser, greater = sorted(order[level - 1:level + 1])
                        wanted = (lesser, greater) if code == near else (greater, lesser)
                        self.assertEqual(after, order[:level - 1] + wanted + order[level + 1:])

    def test_no_level(self):
        for p, n in [(2, 0), (3, 1), (2, 2), (2, 3), (13, 6)]:
            nest = standard(Ground(p, n))
            for value in no_integers() + NEGATIVE + [0, n, n + 1, GREAT, nest]:
                with self.assertRaises(NoLevel) as caught:
                    near_code(nest, nest, value)
                self.assertIs(caught.exception.level, value)


class DeedsApart(unittest.TestCase):
    def test_all_nests_of_small_grounds(self):
        for p, n in SIZES + [(7, 2), (3, 3)]:
            away = brute.distances(p, n)
            for f, g in all_pairs(p, n):
                self.assertEqual(deeds_apart(f, g), away[tuple(f.codes())][tuple(g.codes())])

    def test_equal_and_opposite_nests(self):
        for p, n in SIZES + [(3, 3), (13, 6), (2, 8)]:
            ground = Ground(p, n)
            for nest in some_nests(p, n, 3, n):
                self.assertEqual(deeds_apart(nest, nest), 0)
            self.assertEqual(deeds_apart(standard(ground), opposite(ground)), n * (n - 1) // 2)
            self.assertEqual(deeds_apart(opposite(ground), standard(ground)), n * (n - 1) // 2)

    def test_both_ways_round_and_by_way_of_a_third(self):
        for p, n in [(2, 3), (3, 4), (13, 6), (2, 8)]:
            for f, g, h in itertools.permutations(some_nests(p, n, 6, 5 * p), 3):
                self.assertEqual(deeds_apart(f, g), deeds_apart(g, f))
                self.assertLessEqual(deeds_apart(f, h), deeds_apart(f, g) + deeds_apart(g, h))

    def test_one_deed_changes_it_by_one_at_most(self):
        for f, g in some_pairs(2, 4, 10, 3) + some_pairs(3, 3, 10, 4):
            for deed in all_deeds(f):
                self.assertLessEqual(abs(deeds_apart(done(f, deed), g) - deeds_apart(f, g)), 1)


class Ways(unittest.TestCase):
    def test_the_example(self):
        wanted = [(2, ((1, 0, 0), (0, 0, 1))), (1, ((0, 0, 1),))]
        self.assertEqual(way(F, H, [2, 1]), wanted)
        self.assertEqual(way(F, H, (2, 1)), wanted)
        self.assertEqual(any_way(F, H), wanted)

    def check(self, f, g, levels, script):
        self.assertIs(type(script), list)
        self.assertEqual([level for level, _ in script], levels)
        self.assertEqual(walked(f, script), g)
        self.assertEqual(len(script), brute.count_inversions(order_of(f, g)))
        for at, deed in zip(steps(f, script), script):
            self.assertIs(type(deed), tuple)
            self.assertEqual(deed, (deed[0], near_code(at, g, deed[0])))
        self.assertIsNone(judge_way(f, g, script))
        self.assertIsNone(judge_way(f, g, tuple(script)))

    def test_each_level_row(self):
        for p, n, many in [(2, 3, 30), (3, 3, 15), (2, 4, 12), (13, 4, 3)]:
            ground = Ground(p, n)
            for f, g in some_pairs(p, n, many, p * n) + [(standard(ground), opposite(ground))]:
                for levels in brute.level_rows(order_of(f, g)):
                    self.check(f, g, levels, way(f, g, levels))
                    self.assertEqual(way(f, g, tuple(levels)), way(f, g, levels))

    def test_there_is_one_for_each_level_row_alone(self):
        away = brute.distances(2, 3)
        for f, g in all_pairs(2, 3, 7):
            goal = away[tuple(g.codes())]
            scripts = [([], f)]
            for left in range(goal[tuple(f.codes())], 0, -1):
                scripts = [(script + [deed], done(nest, deed)) for script, nest in scripts for deed in all_deeds(nest)
                           if goal[tuple(done(nest, deed).codes())] < left]
            wanted = [way(f, g, levels) for levels in brute.level_rows(order_of(f, g))]
            self.assertEqual(sorted(script for script, _ in scripts), sorted(wanted))

    def test_any_way(self):
        for f, g in pairs_of_all_kinds():
            script = any_way(f, g)
            self.check(f, g, [level for level, _ in script], script)
        for p, n in [(13, 6), (2, 8)]:
            ground = Ground(p, n)
            for f, g in some_pairs(p, n, 3, 2 * p) + [(standard(ground), opposite(ground))]:
                script = any_way(f, g)
                self.check(f, g, [level for level, _ in script], script)

    def test_equal_nests(self):
        for p, n in SIZES + [(13, 6)]:
            nest = standard(Ground(p, n))
            self.assertEqual(any_way(nest, nest), [])
            self.assertEqual(way(nest, nest, []), [])
            self.assertIsNone(judge_way(nest, nest, []))

    def refused(self, f, g, levels, number):
        for passed in [list(levels), tuple(levels)]:
            with self.assertRaises(BadLevels) as caught:
                way(f, g, passed)
            self.assertEqual(caught.exception.number, number, levels)
            self.assertIs(type(caught.exception.number), int)

    def test_all_short_lists_of_levels(self):
        for f, g in all_pairs(2, 3, 23) + some_pairs(2, 4, 3, 1) + all_pairs(3, 2, 5) + all_pairs(2, 1):
            for many in range(5):
                for levels in itertools.product(range(5), repeat=many):
                    number = fault(order_of(f, g), levels)
                    if number is None:
                        self.assertEqual(walked(f, way(f, g, levels)), g)
                    else:
                        self.refused(f, g, levels, number)

    def test_levels_of_all_kinds(self):
        for member in no_integers() + NEGATIVE + [0, 3, GREAT, F, deep(2)]:
            for k in range(3):
                self.refused(F, H, [2, 1][:k] + [member] + [2, 1][k:], k)
                self.refused(F, H, [2, 1][:k] + [member, None], k)
        self.refused(F, H, [2, True], 1)
        self.refused(F, H, [2], 1)
        self.refused(F, H, [], 0)
        self.refused(F, H, [2, 1, 2], 2)
        self.refused(F, H, [1, 2], 0)


class JudgeWay(unittest.TestCase):
    FIRST = (2, ((1, 0, 0), (0, 0, 1)))
    SECOND = (1, ((0, 0, 1),))
    OTHER = (1, ((1, 1, 0),))
    THERE = (2, ((1, 0, 0), (0, 1, 1)))

    def check(self, script, wanted):
        for passed in [list(script), tuple(script)]:
            self.assertEqual(judge_way(F, H, passed), wanted, script)

    def test_each_answer(self):
        back = (1, ((1, 0, 0),))
        self.check([self.FIRST, self.SECOND], None)
        self.check([], ("end",))
        self.check([self.FIRST], ("end",))
        self.check([self.OTHER], ("end",))
        self.check([self.THERE, self.FIRST, self.SECOND], ("deeds", 1))
        self.check([self.OTHER, back, self.FIRST, self.SECOND], ("deeds", 2))
        self.check([self.OTHER, back, self.OTHER, back, self.THERE, self.FIRST, self.SECOND], ("deeds", 5))
        self.check([self.SECOND, self.FIRST], ("deed", 0))
        self.check([self.FIRST, self.FIRST, self.SECOND], ("deed", 1))
        self.check([self.FIRST, self.SECOND, self.SECOND], ("deed", 2))

    def test_the_first_that_applies(self):
        self.check([self.OTHER, self.OTHER], ("deed", 1))
        self.check([self.THERE, self.OTHER, self.FIRST], ("deed", 1))
        self.check([self.THERE, self.FIRST, self.FIRST], ("deed", 2))
        self.check([self.OTHER, (1, ((0, 1, 0),)), (1, ((1, 0, 0),))], ("end",))
        self.assertEqual(judge_way(F, F, [self.OTHER, (1, ((1, 0, 0),))]), ("deeds", 2))
        self.assertEqual(judge_way(F, F, [self.OTHER]), ("end",))
        self.assertEqual(judge_way(F, F, None), ("form",))

    def test_neither_list_nor_tuple(self):
        for value in no_integers() + NEGATIVE + [0, 1, GREAT, F, {0: self.FIRST}, "way", {}]:
            if not isinstance(value, (list, tuple)):
                self.assertEqual(judge_way(F, H, value), ("form",), repr(value))

    def test_members_of_all_kinds(self):
        script = [self.FIRST, self.SECOND]
        for member in no_integers() + NEGATIVE + [0, GREAT, list(self.FIRST), (1,), (True, ((0, 0, 1),)), F,
                                                  (1, [(0, 0, 1)]), (1, ([0, 0, 1],)), (3, ()), (0, ())]:
            for k in range(3):
                self.check(script[:k] + [member] + script[k:], ("deed", k))

    def test_values_of_all_kinds(self):
        for value in no_integers() + [deep(1)]:
            if isinstance(value, (list, tuple)):
                self.assertEqual(judge_way(F, H, value), ("end",) if len(value) == 0 else ("deed", 0))

    def test_random_scripts(self):
        chance = random.Random(76)
        answers = set()
        for p, n, many in [(2, 2, 3), (2, 3, 5), (3, 3, 6)]:
            goals = some_nests(p, n, 4, 8)
            for f, g in itertools.product(some_nests(p, n, 12, 9), goals):
                script = []
                while len(script) < many and (not script or chance.randrange(5)):
                    script.append(chance.choice(all_deeds(walked(f, script))))
                    apart = deeds_apart(f, g)
                    if walked(f, script) != g:
                        wanted = ("end",)
                    else:
                        wanted = None if len(script) == apart else ("deeds", len(script) - apart)
                    self.assertEqual(judge_way(f, g, script), wanted)
                    answers.add(wanted and wanted[0])
        self.assertEqual(answers, {None, "end", "deeds"})

    def test_sixty_deeds(self):
        turn = [self.OTHER, (1, ((1, 0, 0),))]
        self.check(turn * 29 + [self.FIRST, self.SECOND], ("deeds", 58))
        self.check(turn * 30, ("end",))
        self.check(turn * 29 + [self.FIRST, self.FIRST], ("deed", 59))


class Changes(unittest.TestCase):
    def test_each_deed(self):
        for f, g in pairs_of_all_kinds():
            before = inversions(order_of(f, g))
            firsts = []
            for deed in all_deeds(f):
                wanted = inversions(order_of(done(f, deed), g)) - before
                self.assertEqual(change(f, g, deed), wanted)
                self.assertIs(type(change(f, g, deed)), int)
                self.assertIs(begins(f, g, deed), wanted == -1)
                if wanted == -1:
                    firsts.append(deed)
            self.assertEqual(first_deeds(f, g), firsts)
            self.assertIs(type(first_deeds(f, g)), list)
            self.assertEqual([level for level, _ in firsts], sorting_steps(order_of(f, g)))

    def test_how_many_of_each(self):
        for p, n in [(2, 3), (3, 3), (7, 3)]:
            for f, g in some_pairs(p, n, 8, 13):
                for level in range(1, n):
                    changes = sorted(change(f, g, deed) for deed in deeds_at(f, level))
                    if level in sorting_steps(order_of(f, g)):
                        self.assertEqual(changes, [-1] + [0] * (p - 1))
                    else:
                        self.assertEqual(changes, [1] * p)

    def test_what_is_no_deed(self):
        for value in test_deeds.wrong_values():
            for function in [change, begins]:
                with self.assertRaises(BadDeed) as caught:
                    function(test_deeds.NEST, H, value)
                self.assertEqual(caught.exception.number, 0)
                self.assertIs(type(caught.exception.number), int)

    def test_deeds_of_other_nests(self):
        for f, g in some_pairs(2, 3, 10, 14):
            for deed in all_deeds(g):
                if deed not in all_deeds(f):
                    for function in [change, begins]:
                        with self.assertRaises(BadDeed):
                            function(f, g, deed)

    def test_small_grounds_have_none(self):
        for n in [0, 1]:
            nest = standard(Ground(3, n))
            self.assertEqual(first_deeds(nest, nest), [])
            for value in [(0, ()), (1, ((1,),)), None, (), (1, ())]:
                for function in [change, begins]:
                    with self.assertRaises(BadDeed):
                        function(nest, nest, value)


class Kept(unittest.TestCase):
    def test_levels_with_equal_codes(self):
        for f, g in pairs_of_all_kinds():
            wanted = [i for i in range(1, f.ground().n()) if f.codes()[i - 1] == g.codes()[i - 1]]
            self.assertEqual(kept_levels(f, g), wanted)
            self.assertIs(type(kept_levels(f, g)), list)

    def test_no_fewest_way_has_a_deed_there(self):
        for f, g in some_pairs(2, 4, 60, 15):
            for levels in brute.level_rows(order_of(f, g)):
                self.assertEqual(set(levels) & set(kept_levels(f, g)), set())

    def test_chosen_ones(self):
        nest = standard(Ground(3, 5))
        self.assertEqual(kept_levels(nest, nest), [1, 2, 3, 4])
        self.assertEqual(kept_levels(nest, done(done(nest, deeds_at(nest, 3)[0]), deeds_at(nest, 1)[1])), [2, 4])
        self.assertEqual(kept_levels(nest, opposite(Ground(3, 5))), [])
        self.assertEqual(kept_levels(standard(Ground(2, 1)), standard(Ground(2, 1))), [])


class Nearest(unittest.TestCase):
    def test_equal_distances(self):
        self.assertEqual(nearest(F, [G, H, F, F]), 2)
        self.assertEqual(nearest(F, [G, H, H, G]), 1)
        self.assertEqual(nearest(F, [G]), 0)
        self.assertEqual(nearest(F, (H, G, H)), 0)
        self.assertEqual(nearest(F, [G, G, G]), 0)
        self.assertIs(type(nearest(F, [F])), int)

    def test_some_lists(self):
        chance = random.Random(77)
        for p, n in [(2, 0), (3, 1), (2, 2), (2, 3), (3, 4), (13, 6)]:
            for many in [1, 2, 5, 12]:
                nests = some_nests(p, n, many, many)
                f = chance.choice(some_nests(p, n, 3, many + 1))
                away = [deeds_apart(f, nest) for nest in nests]
                self.assertEqual(nearest(f, nests), min(range(many), key=lambda k: (away[k], k)))
                self.assertEqual(nearest(f, tuple(nests)), nearest(f, nests))


class Unlike(unittest.TestCase):
    def test_unlike_grounds_come_first(self):
        nests = [standard(Ground(p, n)) for p, n in [(2, 0), (3, 0), (2, 1), (2, 3), (3, 3), (2, 4)]]
        for f, g in itertools.permutations(nests, 2):
            for function in [deeds_apart, any_way, first_deeds, kept_levels]:
                with self.assertRaises(UnlikeGrounds):
                    function(f, g)
            for function in [near_code, judge_way, change, begins]:
                for value in [1, 0, None, [], (), 7, (1, ((0, 1, 0),)), [None], GREAT]:
                    with self.assertRaises(UnlikeGrounds):
                        function(f, g, value)
            for levels in [[], [1], [None], (2, 1)]:
                with self.assertRaises(UnlikeGrounds):
                    way(f, g, levels)
            for others in [[g], [f, g], [f, f, g, f], (g, f)]:
                with self.assertRaises(UnlikeGrounds):
                    nearest(f, others)
