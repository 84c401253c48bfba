import copy
import itertools
import random
import unittest

from codenests.acts import act_word, after
from codenests.deeds import all_deeds, deeds_at, done
from codenests.errors import BadAct
from codenests.grounds import Ground
from codenests.leading import led
from codenests.nests import Nest, standard
from codenests.sides import turned
from codenests.ways import deeds_apart
from tests import brute, test_deeds
from tests.anything import GREAT, NEGATIVE, deep, no_integers
from tests.test_differences import F, G, H, opposite, some_nests
from tests.test_maps import some_maps, wrong_maps
from tests.test_parts import subsets

# A nest that has the code of F at level 2 alone, and one that has it at level 1 alone.
ONE = Nest(Ground(2, 3), [((0, 1, 0),), ((1, 0, 0), (0, 1, 0))])
OTHER = Nest(Ground(2, 3), [((1, 0, 0),), ((1, 0, 0), (0, 0, 1))])


def plain_act(nest, chance):
    """Some act, or what looks like one, of any of the kinds."""
    ground = nest.ground()
    n = ground.n()
    kind = chance.choice(["put", "put", "put", "nail", "free", "goal", "lead", "turn"])
    if kind == "put" and n > 1:
        return ("put",) + chance.choice(all_deeds(nest))
    if kind in ("nail", "free"):
        return (kind, chance.randrange(n + 1))
    if kind == "goal":
        seed = chance.randrange(10 ** 6)
        codes = chance.choice([None, tuple(nest.codes()), tuple(some_nests(ground.p(), n, 1, seed)[0].codes())])
        return ("goal", codes)
    if kind == "lead":
        return ("lead", some_maps(ground.p(), n, 1, chance.randrange(10 ** 6))[0])
    return ("turn",)


def some_stands(p, n, many, seed):
    """Stands of all kinds: those to which acts lead from a nest."""
    chance = random.Random(seed)
    stand = (some_nests(p, n, 1, seed)[0], (), None)
    found = [stand]
    while len(found) < many:
        act = plain_act(stand[0], chance)
        if act_word(stand, act) is None:
            stand = after(stand, act)
            found.append(stand)
    return found


class Acts(unittest.TestCase):
    def refused(self, stand, act, word):
        before = copy.deepcopy(stand)
        self.assertEqual(act_word(stand, act), word, act)
        with self.assertRaises(BadAct) as caught:
            after(stand, act)
        self.assertEqual(caught.exception.word, word)
        self.assertIs(type(caught.exception.word), str)
        self.assertEqual(stand, before)

    def leads(self, stand, act, wanted):
        before = copy.deepcopy(stand)
        self.assertIsNone(act_word(stand, act), act)
        found = after(stand, act)
        self.assertEqual(found, wanted)
        self.assertEqual([type(part) for part in found[:2]], [Nest, tuple])
        self.assertIs(type(found), tuple)
        self.assertEqual(stand, before)


class Done(Acts):
    """Each kind of act, where it is one."""

    def test_put(self):
        for stand in [(F, (), None), (F, (), G), (F, (), F)]:
            for deed in all_deeds(F):
                self.leads(stand, ("put",) + deed, (done(F, deed), (), stand[2]))
        for deed in all_deeds(F):
            nails = (3 - deed[0],)
            self.leads((F, nails, None), ("put",) + deed, (done(F, deed), nails, None))
            self.leads((F, nails, F), ("put",) + deed, (done(F, deed), nails, F))
        for p, n in [(2, 2), (3, 3), (13, 6)]:
            for nest in some_nests(p, n, 3, 1):
                for level in range(1, n):
                    for deed in deeds_at(nest, level)[:3]:
                        codes = nest.codes()
                        codes[level - 1] = deed[1]
                        self.leads((nest, (), None), ("put",) + deed, (Nest(nest.ground(), codes), (), None))

    def test_nail_and_free(self):
        self.leads((F, (), None), ("nail", 1), (F, (1,), None))
        self.leads((F, (2,), None), ("nail", 1), (F, (1, 2), None))
        self.leads((F, (1,), F), ("nail", 2), (F, (1, 2), F))
        self.leads((F, (), ONE), ("nail", 2), (F, (2,), ONE))
        self.leads((F, (), OTHER), ("nail", 1), (F, (1,), OTHER))
        self.leads((F, (1, 2), None), ("free", 1), (F, (2,), None))
        self.leads((F, (1, 2), F), ("free", 2), (F, (1,), F))
        self.leads((F, (2,), ONE), ("free", 2), (F, (), ONE))
        nest = standard(Ground(13, 6))
        for nails in subsets([1, 2, 3, 4, 5]):
            for level in range(1, 6):
                if level in nails:
                    self.leads((nest, nails, None), ("free", level),
                               (nest, tuple(i for i in nails if i != level), None))
                else:
                    self.leads((nest, nails, None), ("nail", level), (nest, tuple(sorted(nails + (level,))), None))

    def test_goal(self):
        for goal in [None, F, G, H]:
            for other in [F, G, H, ONE]:
                self.leads((F, (), goal), ("goal", tuple(other.codes())), (F, (), other))
            self.leads((F, (), goal), ("goal", None), (F, (), None))
        self.leads((F, (1, 2), F), ("goal", None), (F, (1, 2), None))
        self.leads((F, (1, 2), None), ("goal", None), (F, (1, 2), None))
        self.leads((F, (2,), None), ("goal", tuple(ONE.codes())), (F, (2,), ONE))
        self.leads((F, (2,), F), ("goal", tuple(ONE.codes())), (F, (2,), ONE))
        self.leads((F, (1,), None), ("goal", tuple(OTHER.codes())), (F, (1,), OTHER))
        self.leads((F, (1, 2), None), ("goal", tuple(F.codes())), (F, (1, 2), F))

    def test_lead(self):
        for p, n in [(2, 0), (5, 1), (2, 2), (3, 3), (13, 6)]:
            for nest, goal in zip(some_nests(p, n, 4, 2), some_nests(p, n, 4, 3)):
                for one in some_maps(p, n, 3, 4):
                    self.leads((nest, (), None), ("lead", one), (led(nest, one), (), None))
                    self.leads((nest, (), goal), ("lead", one), (led(nest, one), (), led(goal, one)))
        one = ((0, 1, 0), (1, 1, 0), (0, 1, 1))
        for nails in subsets([1, 2]):
            self.leads((F, nails, None), ("lead", one), (led(F, one), nails, None))
            self.leads((F, nails, F), ("lead", one), (led(F, one), nails, led(F, one)))

    def test_turn(self):
        for p, n in [(2, 0), (5, 1), (2, 2), (3, 3), (13, 6)]:
            for nest, goal in zip(some_nests(p, n, 4, 5), some_nests(p, n, 4, 6)):
                self.leads((nest, (), None), ("turn",), (turned(nest), (), None))
                self.leads((nest, (), goal), ("turn",), (turned(nest), (), turned(goal)))
                for nails in subsets(range(1, n)):
                    wanted = tuple(sorted(n - i for i in nails))
                    self.leads((nest, nails, None), ("turn",), (turned(nest), wanted, None))
                    self.leads((nest, nails, nest), ("turn",), (turned(nest), wanted, turned(nest)))

    def test_what_holds_of_stands(self):
        kinds = set()
        for p, n in [(2, 0), (3, 1), (2, 2), (2, 3), (3, 3), (13, 5)]:
            for nest, nails, goal in some_stands(p, n, 60, 7):
                self.assertEqual(nails, tuple(sorted(set(nails))))
                self.assertTrue(all(1 <= level < n for level in nails))
                if goal is not None:
                    self.assertEqual([goal.code(level) for level in nails], [nest.code(level) for level in nails])
                kinds.add((len(nails) > 0, goal is not None))
        self.assertEqual(len(kinds), 4)

    def test_leading_and_turning_keep_what_is_left(self):
        for p, n in [(2, 3), (3, 4), (13, 6)]:
            for nest, goal in zip(some_nests(p, n, 4, 8), some_nests(p, n, 4, 9)):
                for act in [("turn",), ("lead", some_maps(p, n, 1, 10)[0])]:
                    found = after((nest, (), goal), act)
                    self.assertEqual(deeds_apart(found[0], found[2]), deeds_apart(nest, goal))


class Form(Acts):
    def test_values_of_all_kinds(self):
        right = ("put", 1, ((0, 1, 0),))
        wrong = no_integers() + NEGATIVE + [0, 1, GREAT, F, deep(right), "put", "turn", list(right), {"put": 1}]
        wrong += [right[1:], right[:2], right[:1], right + (0,), (right,), (list("put"),) + right[1:]]
        wrong += [("put", right[1:]), ("Put",) + right[1:], ("put ",) + right[1:], ("",), ("act",), ("undo",)]
        wrong += [("nail",), ("nail", 1, 1), ("free",), ("free", 1, 1), ("goal",), ("goal", None, None), ("lead",)]
        wrong += [("lead", Ground(2, 3).units(), 1), ("turn", 1), ("turn", None), ("turn", ()), ["turn"], ("turns",)]
        wrong += [("keep", "a"), ("none",), ("goal", *F.codes())]
        for value in no_integers() + NEGATIVE + [0, GREAT, F, ["put"], ("put",), ("turn",), {"turn": 1}, deep("turn")]:
            wrong += [(value,), (value, 1), (value, 1, ((0, 1, 0),)), (value, None)]
        for stand in [(F, (), None), (F, (1, 2), F), (standard(Ground(2, 0)), (), None)]:
            for value in wrong:
                self.refused(stand, value, "form")


class Put(Acts):
    def test_what_is_no_deed(self):
        wrong = [value for value in test_deeds.wrong_values() if isinstance(value, tuple) and len(value) == 2]
        self.assertGreater(len(wrong), 50)
        for value in wrong:
            for nails in subsets([1, 2]):
                self.refused((test_deeds.NEST, nails, None), ("put",) + value, "deed")
                self.refused((test_deeds.NEST, nails, test_deeds.NEST), ("put",) + value, "deed")

    def test_deeds_of_other_nests(self):
        for deed in all_deeds(G):
            if deed not in all_deeds(F):
                self.refused((F, (), G), ("put",) + deed, "deed")
        for level in range(1, 3):
            self.refused((F, (), None), ("put", level, F.code(level)), "deed")

    def test_nailed_levels(self):
        for nails in [(1,), (2,), (1, 2)]:
            for deed in all_deeds(F):
                if deed[0] in nails:
                    self.refused((F, nails, None), ("put",) + deed, "nail")
                    self.refused((F, nails, F), ("put",) + deed, "nail")

    def test_small_grounds(self):
        for n in [0, 1]:
            stand = (standard(Ground(3, n)), (), None)
            for value in [(0, ()), (1, ()), (1, ((1,),)), (0, ((1,),)), (None, None)]:
                self.refused(stand, ("put",) + value, "deed")


class NailAndFree(Acts):
    def test_levels_of_all_kinds(self):
        for value in no_integers() + NEGATIVE + [0, 3, 4, GREAT, F, deep(1), "1", [1], (1,)]:
            for word in ["nail", "free"]:
                for stand in [(F, (), None), (F, (1,), None), (F, (1, 2), F), (F, (), H)]:
                    self.refused(stand, (word, value), "level")

    def test_levels_that_are_nailed_or_not(self):
        nest = standard(Ground(13, 6))
        for nails in subsets([1, 2, 3, 4, 5]):
            for level in range(1, 6):
                for goal in [None, nest]:
                    self.refused((nest, nails, goal), ("nail" if level in nails else "free", level), "level")

    def test_another_code_of_the_goal(self):
        self.refused((F, (), H), ("nail", 1), "goal")
        self.refused((F, (), H), ("nail", 2), "goal")
        self.refused((F, (), ONE), ("nail", 1), "goal")
        self.refused((F, (), OTHER), ("nail", 2), "goal")
        self.refused((F, (2,), ONE), ("nail", 1), "goal")
        self.refused((F, (2,), ONE), ("nail", 2), "level")
        self.refused((F, (2,), ONE), ("nail", 3), "level")
        self.refused((F, (2,), ONE), ("free", 1), "level")

    def test_small_grounds(self):
        for n in [0, 1]:
            nest = standard(Ground(2, n))
            for level in [0, 1, 2, None, True]:
                for word in ["nail", "free"]:
                    self.refused((nest, (), None), (word, level), "level")
                    self.refused((nest, (), nest), (word, level), "level")


class Goals(Acts):
    def wrong_codes(self):
        low, high = F.codes()
        wrong = no_integers() + NEGATIVE + [0, 1, GREAT, F, False, [low, high], (low,), (low, high, high), (high, low)]
        wrong += [(low, list(high)), ([(1, 0, 0)], high), (([1, 0, 0],), high), (((1, 0, 2),), high), (low, low)]
        wrong += [(((0, 0, 1),), high), (low, ((0, 1, 0), (0, 0, 1))), (low, ((0, 1, 0), (1, 0, 0))), ((), high)]
        wrong += [(((True, 0, 0),), high), (((0, 0, 0),), high), (low, ((1, 0, 0), (1, 1, 0))), {0: low, 1: high}]
        wrong += [(low, value) for value in no_integers() + NEGATIVE + [GREAT]]
        wrong += [(value, high) for value in no_integers() + NEGATIVE + [GREAT]]
        return [value for value in wrong if value is not None]

    def test_what_is_no_nest(self):
        for value in self.wrong_codes():
            for stand in [(F, (), None), (F, (1,), None), (F, (1, 2), F), (F, (), H)]:
                self.refused(stand, ("goal", value), "nest")

    def test_other_codes_at_nailed_levels(self):
        for other in [G, H, ONE, OTHER]:
            for nails in subsets([1, 2]):
                codes = tuple(other.codes())
                if all(other.code(level) == F.code(level) for level in nails):
                    self.leads((F, nails, None), ("goal", codes), (F, nails, other))
                else:
                    for goal in [None, F]:
                        self.refused((F, nails, goal), ("goal", codes), "nail")

    def test_small_grounds(self):
        for n in [0, 1]:
            nest = standard(Ground(2, n))
            for goal in [None, nest]:
                self.leads((nest, (), goal), ("goal", ()), (nest, (), nest))
                self.leads((nest, (), goal), ("goal", None), (nest, (), None))
                for value in [[], ((),), (((1,),),), 0, False, "", nest]:
                    self.refused((nest, (), goal), ("goal", value), "nest")


class Lead(Acts):
    def test_what_is_no_map(self):
        nest = standard(Ground(3, 3))
        for value, _ in wrong_maps():
            for stand in [(nest, (), None), (nest, (1, 2), nest)]:
                self.refused(stand, ("lead", value), "map")

    def test_small_grounds(self):
        none, one = standard(Ground(3, 0)), standard(Ground(3, 1))
        self.leads((none, (), none), ("lead", ()), (none, (), none))
        self.leads((one, (), None), ("lead", ((2,),)), (one, (), None))
        for value in [None, [], ((),), 0, False, none]:
            self.refused((none, (), None), ("lead", value), "map")
        for value in [None, (), ((0,),), ((3,),), ((True,),), [(1,)]]:
            self.refused((one, (), None), ("lead", value), "map")


class InTurn(Acts):
    def test_many_acts(self):
        """Each act by the words of S10.2, worked out from codes alone."""
        chance = random.Random(11)
        for p, n in [(2, 2), (2, 3), (3, 3)]:
            for stand in some_stands(p, n, 50, 12):
                nest, nails, goal = stand
                for _ in range(6):
                    act = plain_act(nest, chance)
                    word = act_word(stand, act)
                    if word is not None:
                        self.refused(stand, act, word)
                        continue
                    there, nailed, aim = after(stand, act)
                    if act[0] == "put":
                        self.assertNotIn(act[1], nails)
                        self.assertEqual((there, nailed, aim), (done(nest, act[1:]), nails, goal))
                    elif act[0] in ("nail", "free"):
                        self.assertEqual(set(nailed) ^ set(nails), {act[1]})
                        self.assertEqual((there, aim), (nest, goal))
                    elif act[0] == "goal":
                        self.assertEqual((there, nailed), (nest, nails))
                        self.assertEqual(aim and tuple(aim.codes()), act[1])
                    elif act[0] == "lead":
                        self.assertEqual(nailed, nails)
                        self.assertEqual(there.codes(), [self.led_code(p, n, act[1], code) for code in nest.codes()])
                    else:
                        self.assertEqual(nailed, tuple(n - level for level in reversed(nails)))

    def led_code(self, p, n, one, code):
        return brute.echelon(p, [brute.combination(p, n, row, one) for row in code])

    def test_opposite_goals(self):
        nest, goal = standard(Ground(13, 6)), opposite(Ground(13, 6))
        for level in range(1, 6):
            self.refused((nest, (), goal), ("nail", level), "goal")
            self.leads((nest, (level,), None), ("goal", None), (nest, (level,), None))
            self.refused((nest, (level,), None), ("goal", tuple(goal.codes())), "nail")

    def test_all_kinds_of_words_occur(self):
        stand = (F, (1,), OTHER)
        words = [act_word(stand, act) for act in itertools.chain(
            [("turns",), ("put", 1, F.code(1)), ("put", 1, ((0, 1, 0),)), ("nail", 1), ("nail", 2), ("free", 2)],
            [("goal", ()), ("goal", tuple(H.codes())), ("lead", ())])]
        self.assertEqual(words, ["form", "deed", "nail", "level", "goal", "level", "nest", "nail", "map"])
