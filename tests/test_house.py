import copy
import itertools
import random
import unittest

from codenests.acts import act_word, after
from codenests.deeds import all_deeds
from codenests.errors import BadAct, NoLevel, NothingDone, UnknownName, UnlikeGrounds
from codenests.goals import nest_beside
from codenests.grounds import Ground
from codenests.house import House, beside, parted
from codenests.nests import Nest, standard
from codenests.parts import Part
from codenests.ways import change, deeds_apart, first_deeds, judge_way
from tests.anything import GREAT, NEGATIVE, deep, no_integers
from tests.test_acts import ONE, OTHER, plain_act
from tests.test_differences import F, G, H, opposite, some_nests

LOW = ("put", 1, ((0, 1, 0),))
LOW_BACK = ("put", 1, ((1, 0, 0),))
HIGH = ("put", 2, ((1, 0, 0), (0, 0, 1)))
TO_G = ("goal", tuple(G.codes()))
TO_H = ("goal", tuple(H.codes()))

# What is refused at F without nails and without a goal, with its word.
REFUSED = [(None, "form"), (("undo",), "form"), (("put", 1, ((1, 0, 0),)), "deed"), (("free", 1), "level"),
           (("nail", 3), "level"), (("goal", ()), "nest"), (("lead", ((1, 0), (0, 1))), "map"), ([LOW], "form")]


def state(house):
    """All that can be asked of a house."""
    return copy.deepcopy([
        house.stand(), house.nest(), house.goal(), house.nails(), house.done(), house.undone(), house.paid(),
        house.left(), house.waste(), house.way(), house.next_deeds(), house.marks(),
        [house.marked(name) for name in house.marks()], [house.deeds_to(name) for name in house.marks()]])


class Model:
    """A house that is told by its beginning and its acts alone."""

    def __init__(self, stand):
        self.start, self.done, self.undone, self.marks = stand, [], [], {}

    def stands(self):
        found = [self.start]
        for act in self.done:
            found.append(after(found[-1], act))
        return found

    def paid(self):
        return sum(act[0] == "put" for act in self.done)

    def waste(self):
        """By the changes of the deeds behind the last act that sets the goal."""
        worth = 0
        for stand, act in zip(self.stands(), self.done):
            if act[0] == "goal":
                worth = 0
            elif act[0] == "put" and stand[2] is not None:
                worth += change(stand[0], stand[2], act[1:]) + 1
        return worth


class Houses(unittest.TestCase):
    def check(self, house, model):
        """Compare all that a house tells with its model."""
        nest, nails, goal = model.stands()[-1]
        self.assertEqual(house.stand(), (nest, nails, goal))
        self.assertEqual((house.nest(), house.nails(), house.goal()), (nest, list(nails), goal))
        self.assertEqual((house.done(), house.undone()), (model.done, model.undone))
        self.assertEqual(house.paid(), model.paid())
        if goal is None:
            self.assertEqual([house.left(), house.waste(), house.way(), house.next_deeds()], [None] * 4)
        else:
            self.assertEqual(house.left(), deeds_apart(nest, goal))
            self.assertEqual(house.waste(), model.waste())
            self.assertIsNone(judge_way(nest, goal, house.way()))
            self.assertIs(type(house.way()), list)
            self.assertEqual(house.next_deeds(), first_deeds(nest, goal))
        self.assertEqual(house.marks(), list(model.marks))
        for name, kept in model.marks.items():
            self.assertEqual(house.marked(name), kept)
            self.assertEqual(house.deeds_to(name), deeds_apart(nest, kept))

    def raises(self, house, wanted, function, *arguments):
        """Make sure that a call raises an error and changes nothing; return the error."""
        before, twin = state(house), house.twin()
        with self.assertRaises(wanted) as caught:
            function(*arguments)
        self.assertEqual(state(house), before)
        self.assertEqual(house, twin)
        return caught.exception


class Beginning(Houses):
    def test_a_new_house(self):
        for p, n in [(2, 0), (13, 0), (3, 1), (2, 2), (2, 3), (13, 6)]:
            for nest in some_nests(p, n, 3, 1):
                house = House(nest)
                self.check(house, Model((nest, (), None)))
                self.assertEqual(house.stand(), (nest, (), None))
                self.assertEqual((house.done(), house.undone(), house.marks(), house.nails()), ([], [], [], []))
                self.assertEqual(house.paid(), 0)
                for function in [house.goal, house.left, house.waste, house.way, house.next_deeds]:
                    self.assertIsNone(function())
                for function in [house.undo, house.redo]:
                    self.raises(house, NothingDone, function)

    def test_what_it_returns(self):
        house = House(F)
        house.tried([("nail", 2), ("free", 2), TO_G, LOW, LOW_BACK])
        self.assertIs(type(house.stand()), tuple)
        self.assertIs(type(house.stand()[1]), tuple)
        for function in [house.nails, house.done, house.undone, house.way, house.next_deeds, house.marks]:
            self.assertIs(type(function()), list)
        for function in [house.paid, house.left, house.waste, house.undo, house.redo]:
            self.assertIs(type(function()), int)

    def test_lists_belong_to_the_caller(self):
        house = House(F)
        house.keep("a")
        house.tried([("nail", 1), TO_H[:1] + (tuple(OTHER.codes()),), HIGH])
        house.undo()
        before = state(house)
        for function in [house.nails, house.done, house.undone, house.way, house.next_deeds, house.marks]:
            found = function()
            self.assertGreater(len(found), 0)
            found.clear()
            self.assertIsNot(function(), found)
        self.assertEqual(state(house), before)


class Doing(Houses):
    def test_do(self):
        house, model = House(F), Model((F, (), None))
        for k, act in enumerate([LOW, ("nail", 2), TO_G[:1] + (tuple(ONE.codes()),), ("free", 2), LOW_BACK, ("turn",),
                                 ("lead", ((0, 1, 0), (1, 0, 0), (0, 0, 1))), ("goal", None)]):
            self.assertEqual(house.do(act), k + 1)
            model.done.append(act)
            self.check(house, model)
            self.assertEqual(house.done()[-1], act)

    def test_refused_acts(self):
        house = House(F)
        for act, word in REFUSED:
            for function, passed in [(house.do, act), (house.tried, [act]), (house.would, [act]),
                                     (house.tried, [LOW, LOW_BACK, act]), (house.would, (LOW, LOW_BACK, act))]:
                self.assertEqual(self.raises(house, BadAct, function, passed).word, word)
        house.do(LOW)
        house.undo()
        for act, word in REFUSED:
            self.assertEqual(self.raises(house, BadAct, house.do, act).word, word)
        self.assertEqual(house.undone(), [LOW])

    def test_values_of_all_kinds(self):
        house = House(F)
        for value in no_integers() + NEGATIVE + [0, 1, GREAT, F, House(F), deep(LOW)]:
            self.assertEqual(self.raises(house, BadAct, house.do, value).word, "form")
            for acts in [[value], (LOW, value), [LOW, value, LOW_BACK]]:
                self.assertEqual(self.raises(house, BadAct, house.tried, acts).word, "form")
                self.assertEqual(self.raises(house, BadAct, house.would, acts).word, "form")

    def test_each_act_is_looked_at_at_its_turn(self):
        house = House(F)
        self.assertEqual(house.tried([LOW, ("put", 1, ((1, 1, 0),))]), 2)
        self.assertEqual(self.raises(house, BadAct, house.tried, [LOW, LOW]).word, "deed")
        self.assertEqual(self.raises(house, BadAct, house.tried, [("nail", 1), LOW]).word, "nail")
        self.assertEqual(self.raises(house, BadAct, house.tried, [("nail", 1), TO_H]).word, "nail")
        self.assertEqual(self.raises(house, BadAct, house.tried, [TO_H, ("nail", 1)]).word, "goal")
        self.assertEqual(house.tried((("nail", 1), ("free", 1))), 4)

    def test_tried_and_would(self):
        chance = random.Random(1)
        for p, n in [(2, 0), (3, 1), (2, 2), (2, 3), (13, 4)]:
            for nest in some_nests(p, n, 4, 2):
                house, model = House(nest), Model((nest, (), None))
                for _ in range(5):
                    acts, stand = [], house.stand()
                    for _ in range(chance.randrange(6)):
                        act = plain_act(stand[0], chance)
                        if act_word(stand, act) is None:
                            acts.append(act)
                            stand = after(stand, act)
                    before = state(house)
                    for passed in [acts, tuple(acts)]:
                        self.assertEqual(house.would(passed), stand)
                        self.assertEqual(state(house), before)
                    model.done += acts
                    self.assertEqual(house.tried(chance.choice([list, tuple])(acts)), len(model.done))
                    self.check(house, model)

    def test_an_empty_list_changes_nothing(self):
        house = House(F)
        house.tried([LOW, LOW_BACK, LOW])
        house.undo()
        before = state(house)
        for empty in [[], ()]:
            self.assertEqual(house.tried(empty), 2)
            self.assertEqual(house.would(empty), house.stand())
            self.assertEqual(state(house), before)
        self.assertEqual(house.undone(), [LOW])

    def test_the_list_is_not_kept(self):
        house, acts = House(F), [LOW, LOW_BACK]
        house.tried(acts)
        acts.append(None)
        self.assertEqual(house.done(), [LOW, LOW_BACK])
        house.tried(house.done())
        self.assertEqual(len(house.done()), 4)

    def test_many(self):
        house = House(F)
        for k in range(60):
            self.assertEqual(house.tried([LOW, LOW_BACK]), 2 * k + 2)
        self.assertEqual(self.raises(house, BadAct, house.do, LOW).word, "many")
        for acts in [[LOW], [LOW, None], (("turn",),)]:
            self.assertEqual(self.raises(house, BadAct, house.tried, acts).word, "many")
            self.assertEqual(self.raises(house, BadAct, house.would, acts).word, "many")
        for act, word in REFUSED:
            self.assertEqual(self.raises(house, BadAct, house.do, act).word, word)
            self.assertEqual(self.raises(house, BadAct, house.would, [act, LOW]).word, word)
        self.assertEqual(house.tried([]), 120)
        self.assertEqual(house.would([]), (F, (), None))
        self.assertEqual(house.undo(), 119)
        self.assertEqual(self.raises(house, BadAct, house.tried, [LOW_BACK, LOW]).word, "many")
        self.assertEqual(self.raises(house, BadAct, house.tried, [LOW_BACK, None]).word, "form")
        self.assertEqual(house.redo(), 120)
        self.raises(house, NothingDone, house.redo)
        house.undo()
        self.assertEqual(house.do(LOW_BACK), 120)

    def test_undo_and_redo(self):
        house, acts = House(F), [LOW, ("nail", 1), TO_H, ("turn",)]
        house.tried([LOW, ("nail", 2), ("turn",)])
        self.assertEqual((house.undo(), house.undo()), (2, 1))
        self.assertEqual((house.done(), house.undone()), ([LOW], [("nail", 2), ("turn",)]))
        self.check(house, self.with_undone([LOW], [("nail", 2), ("turn",)]))
        self.assertEqual(house.redo(), 2)
        self.assertEqual((house.done(), house.undone()), ([LOW, ("nail", 2)], [("turn",)]))
        self.assertEqual((house.undo(), house.undo()), (1, 0))
        self.raises(house, NothingDone, house.undo)
        self.assertEqual(house.undone(), [LOW, ("nail", 2), ("turn",)])
        self.assertEqual([house.redo() for _ in range(3)], [1, 2, 3])
        self.raises(house, NothingDone, house.redo)
        house.undo()
        self.assertEqual(house.do(("free", 2)), 3)
        self.assertEqual(house.undone(), [])
        self.assertEqual(self.raises(house, BadAct, house.tried, acts).word, "deed")

    def with_undone(self, done, undone):
        model = Model((F, (), None))
        model.done, model.undone = done, undone
        return model


class Histories(Houses):
    def test_histories(self):
        chance = random.Random(2)
        seen = set()
        for p, n, many in [(2, 0, 30), (5, 1, 40), (2, 2, 120), (2, 3, 200), (3, 3, 150), (13, 5, 60)]:
            nest = some_nests(p, n, 1, 3)[0]
            house, model = House(nest), Model((nest, (), None))
            for _ in range(many):
                kind = chance.choice(["do", "do", "do", "undo", "redo", "keep", "bad", "twin"])
                act = plain_act(house.nest(), chance)
                if kind == "do" and act_word(house.stand(), act) is None and len(model.done) < 120:
                    model.done, model.undone = model.done + [act], []
                    self.assertEqual(house.do(act), len(model.done))
                elif kind == "do":
                    self.raises(house, BadAct, house.do, act)
                elif kind == "undo" and model.done:
                    model.undone = [model.done[-1]] + model.undone
                    model.done = model.done[:-1]
                    self.assertEqual(house.undo(), len(model.done))
                elif kind == "redo" and model.undone:
                    model.done, model.undone = model.done + model.undone[:1], model.undone[1:]
                    self.assertEqual(house.redo(), len(model.done))
                elif kind in ("undo", "redo"):
                    self.raises(house, NothingDone, house.undo if kind == "undo" else house.redo)
                elif kind == "keep":
                    name = chance.choice(["a", "b", "c", "goal", "x123"])
                    model.marks[name] = house.nest()
                    self.assertIsNone(house.keep(name))
                elif kind == "bad":
                    self.raises(house, BadAct, house.tried, [("turn",), None])
                else:
                    other = house.twin()
                    self.assertEqual(other, house)
                    house.tried([("turn",)] if len(model.done) < 120 else [])
                    house = other
                self.check(house, model)
                seen.add((house.goal() is not None, (house.waste() or 0) > 0, len(house.nails()) > 0))
        self.assertEqual(len(seen), 6)


class Accounts(Houses):
    def test_paid(self):
        house = House(F)
        house.tried([("nail", 2), LOW, ("turn",), ("turn",), LOW_BACK, TO_H[:1] + (None,), LOW])
        self.assertEqual(house.paid(), 3)
        house.undo()
        self.assertEqual(house.paid(), 2)
        house.redo()
        self.assertEqual(house.paid(), 3)

    def test_waste(self):
        house = House(F)
        house.do(LOW)
        self.assertIsNone(house.waste())
        house.do(TO_H)
        self.assertEqual((house.waste(), house.left()), (0, deeds_apart(house.nest(), H)))
        house.tried([("put", 1, ((1, 1, 0),))])
        first = house.waste()
        house.do(TO_H)
        self.assertEqual(house.waste(), 0)
        house.undo()
        self.assertEqual(house.waste(), first)
        house.do(("goal", None))
        self.assertEqual([house.waste(), house.left(), house.way(), house.next_deeds()], [None] * 4)
        house.undo()
        self.assertEqual(house.waste(), first)

    def test_fewest_ways_waste_nothing(self):
        for p, n in [(2, 3), (3, 4), (13, 6)]:
            for nest, goal in zip(some_nests(p, n, 3, 4), some_nests(p, n, 3, 5)):
                house = House(nest)
                house.do(("goal", tuple(goal.codes())))
                while house.left() > 0:
                    left = house.left()
                    deed = random.Random(left).choice(house.next_deeds())
                    house.do(("put",) + deed)
                    self.assertEqual((house.left(), house.waste()), (left - 1, 0))
                    house.do(("turn",))
                    self.assertEqual((house.left(), house.waste()), (left - 1, 0))
                self.assertEqual(house.nest(), house.goal())
                self.assertEqual((house.way(), house.next_deeds()), ([], []))
                house.do(("put",) + all_deeds(house.nest())[0])
                self.assertEqual((house.left(), house.waste()), (1, 2))
                house.undo()
                self.assertEqual((house.left(), house.waste()), (0, 0))

    def test_a_goal_from_the_beginning(self):
        one = House(F)
        one.do(TO_G)
        house = beside(one, one)
        self.assertEqual((house.waste(), house.left(), house.paid()), (0, 6, 0))
        worth = 0
        for _ in range(4):
            deed = all_deeds(house.nest())[-1]
            worth += change(house.nest(), house.goal(), deed) + 1
            house.do(("put",) + deed)
            self.assertEqual(house.waste(), worth)
        self.assertGreater(worth, 0)


class Marks(Houses):
    def test_in_their_order(self):
        house = House(F)
        for name in ["b", "a", "c"]:
            self.assertIsNone(house.keep(name))
        house.do(LOW)
        house.keep("a")
        self.assertEqual(house.marks(), ["b", "a", "c"])
        self.assertEqual([house.marked(name) for name in house.marks()], [F, house.nest(), F])
        self.assertEqual([house.deeds_to(name) for name in house.marks()], [1, 0, 1])
        self.assertIs(type(house.deeds_to("a")), int)

    def test_neither_acts_nor_undoing_change_them(self):
        house = House(F)
        house.keep("start")
        house.do(LOW)
        house.keep("low")
        kept = house.marked("low")
        house.do(TO_G)
        house.do(("turn",))
        house.undo()
        house.undo()
        house.undo()
        self.assertEqual(house.marks(), ["start", "low"])
        self.assertEqual((house.marked("start"), house.marked("low")), (F, kept))
        house.redo()
        self.assertEqual((house.deeds_to("start"), house.deeds_to("low")), (1, 0))

    def test_names_that_are_none(self):
        house = House(F)
        house.keep("abc")
        house.keep("a" * 12)
        values = [value for value in no_integers() if value != "abc"]
        values += NEGATIVE + [0, 1, GREAT, F, "", "A", "1a", "a b", "a" * 13, "a-", "abcD", ["abc"], ("abc",)]
        for value in values:
            for function in [house.keep, house.marked, house.deeds_to]:
                self.assertIs(self.raises(house, UnknownName, function, value).name, value)
        self.assertEqual(house.marks(), ["abc", "a" * 12])

    def test_names_without_a_mark(self):
        house = House(F)
        house.keep("abc")
        for name in ["ab", "abcd", "b", "a" * 12, "z9"]:
            for function in [house.marked, house.deeds_to]:
                self.assertEqual(self.raises(house, UnknownName, function, name).name, name)

    def test_twenty_marks(self):
        house = House(F)
        names = ["m" + str(k) for k in range(20)]
        for name in names[::-1] + names:
            house.keep(name)
        self.assertEqual(house.marks(), names[::-1])


class Twins(Houses):
    def made(self):
        house = House(F)
        house.keep("a")
        house.tried([LOW, TO_G, ("turn",)])
        house.undo()
        house.keep("b")
        return house

    def test_equal_with_the_same_past(self):
        house = self.made()
        twin = house.twin()
        self.assertIs(type(twin), House)
        self.assertEqual(twin, house)
        self.assertEqual(state(twin), state(house))
        self.assertEqual(twin.redo(), 3)
        self.assertEqual((twin.undo(), twin.undo(), twin.undo()), (2, 1, 0))
        self.assertEqual(twin.nest(), F)

    def test_they_go_their_own_ways(self):
        changes = [lambda house: house.undo(), lambda house: house.redo(), lambda house: house.do(("goal", None)),
                   lambda house: house.keep("c"), lambda house: house.tried([("turn",), ("turn",)]),
                   lambda house: house.keep("a")]
        for step in changes:
            house = self.made()
            twin, before = house.twin(), state(house)
            step(twin)
            self.assertEqual(state(house), before)
            self.assertNotEqual(twin, house)
            step(house)
            self.assertEqual(twin, house)
            self.assertEqual(state(twin), state(house))

    def test_equality(self):
        self.assertIs(House(F) == House(Nest(F.ground(), F.codes())), True)
        self.assertIs(House(F) == House(G), False)
        self.assertIs(House(standard(Ground(2, 1))) == House(standard(Ground(3, 1))), False)
        for other in no_integers() + [0, 1, F, F.ground(), Part(F.ground(), F.codes()), (F, (), None)]:
            self.assertIs(House(F) == other, False)
            self.assertIs(House(F) != other, True)
        one, other = self.made(), self.made()
        self.assertIs(one == other, True)
        self.assertIs(one != other, False)
        one.redo()
        self.assertIs(one == other, False)
        one.undo()
        self.assertIs(one == other, True)

    def test_equal_stands_are_not_enough(self):
        one, other = House(F), House(F)
        one.tried([LOW, LOW_BACK])
        self.assertEqual(one.stand(), other.stand())
        self.assertIs(one == other, False)
        one.undo()
        one.undo()
        self.assertEqual(one.done(), other.done())
        self.assertIs(one == other, False)

    def test_equal_acts_are_not_enough(self):
        one, other = House(F), House(H)
        one.do(("turn",))
        other.do(("turn",))
        self.assertIs(one == other, False)

    def test_marks_in_their_order(self):
        one, other = House(F), House(F)
        one.keep("a")
        one.keep("b")
        other.keep("b")
        other.keep("a")
        self.assertIs(one == other, False)
        other = House(F)
        other.keep("a")
        self.assertIs(one == other, False)
        other.keep("b")
        self.assertIs(one == other, True)
        other.do(LOW)
        other.keep("b")
        other.undo()
        one.do(LOW)
        one.undo()
        self.assertIs(one == other, False)

    def test_the_beginning_counts(self):
        one = House(F)
        one.do(TO_G)
        whole = beside(one, House(standard(Ground(2, 0))))
        self.assertIs(whole == House(F), True)
        none = House(standard(Ground(2, 0)))
        none.do(("goal", ()))
        self.assertEqual(beside(one, none).goal(), G)
        self.assertIs(beside(one, none) == House(F), False)
        one.do(("goal", tuple(F.codes())))
        one.do(("nail", 1))
        self.assertIs(beside(one, none) == beside(House(F), none), False)


class BesideAndParted(Houses):
    def pairs(self):
        """Houses with nails and goals of all kinds, as pairs of grounds with one prime."""
        chance = random.Random(6)
        for p, n, m in [(2, 0, 0), (2, 0, 2), (2, 2, 0), (3, 1, 1), (2, 1, 2), (2, 3, 2), (13, 3, 3), (2, 3, 3)]:
            for _ in range(4):
                houses = []
                for size in [n, m]:
                    house = House(some_nests(p, size, 1, chance.randrange(1000))[0])
                    house.keep("a")
                    for _ in range(chance.randrange(12)):
                        act = plain_act(house.nest(), chance)
                        if act_word(house.stand(), act) is None:
                            house.do(act)
                    houses.append(house)
                yield houses

    def test_beside(self):
        kinds = set()
        for one, other in self.pairs():
            before = state(one), state(other)
            n, m = one.nest().ground().n(), other.nest().ground().n()
            found = beside(one, other)
            self.assertIs(type(found), House)
            nails = one.nails() + [n + level for level in other.nails()]
            goal = None if one.goal() is None or other.goal() is None else nest_beside(one.goal(), other.goal())
            self.assertEqual(found.stand(), (nest_beside(one.nest(), other.nest()), tuple(nails), goal))
            self.assertEqual((found.done(), found.undone(), found.marks()), ([], [], []))
            self.assertEqual(found.nest().ground(), Ground(one.nest().ground().p(), n + m))
            if goal is not None:
                self.assertEqual(found.left(), one.left() + other.left())
                self.assertEqual(found.waste(), 0)
            self.raises(found, NothingDone, found.undo)
            self.assertEqual((state(one), state(other)), before)
            kinds.add((goal is None, len(nails) > 0))
        self.assertEqual(len(kinds), 4)

    def test_parted_again(self):
        for one, other in self.pairs():
            n, m = one.nest().ground().n(), other.nest().ground().n()
            whole = beside(one, other)
            if n > 0 and m > 0:
                low, high = parted(whole, n)
                both = one.goal() is not None and other.goal() is not None
                self.assertEqual(low.stand(), (one.nest(), tuple(one.nails()), one.goal() if both else None))
                self.assertEqual(high.stand(), (other.nest(), tuple(other.nails()), other.goal() if both else None))
                for part in [low, high]:
                    self.assertEqual((part.done(), part.undone(), part.marks()), ([], [], []))

    def test_each_level(self):
        for p, n in [(2, 2), (2, 3), (3, 4), (13, 6)]:
            nest = standard(Ground(p, n))
            for nails in itertools.chain.from_iterable(itertools.combinations(range(1, n), k) for k in range(3)):
                house = House(nest)
                house.tried([("nail", level) for level in nails])
                for level in range(1, n):
                    pair = parted(house, level)
                    self.assertIs(type(pair), tuple)
                    low, high = pair
                    self.assertEqual(low.stand(), (standard(Ground(p, level)),
                                                   tuple(i for i in nails if i < level), None))
                    self.assertEqual(high.stand(), (standard(Ground(p, n - level)),
                                                    tuple(i - level for i in nails if i > level), None))

    def test_levels_at_which_it_cannot_be_parted(self):
        for nest in [F, G, H, ONE, OTHER, opposite(Ground(3, 4))] + some_nests(2, 4, 6, 7) + some_nests(13, 3, 3, 8):
            house = House(nest)
            units = nest.ground().units()
            for level in range(nest.ground().n() + 2):
                if 0 < level < nest.ground().n() and nest.code(level) == units[:level]:
                    low, high = parted(house, level)
                    self.assertEqual(beside(low, high), house)
                else:
                    self.assertEqual(self.raises(house, NoLevel, parted, house, level).level, level)

    def test_levels_of_all_kinds(self):
        for n in [0, 1, 2, 3]:
            house = House(standard(Ground(2, n)))
            for value in no_integers() + NEGATIVE + [0, n, n + 1, GREAT, F, house]:
                self.assertIs(self.raises(house, NoLevel, parted, house, value).level, value)

    def test_goals(self):
        house = House(F)
        self.assertEqual([part.goal() for part in parted(house, 1)], [None, None])
        house.do(("goal", tuple(OTHER.codes())))
        low, high = parted(house, 1)
        self.assertEqual(low.goal(), standard(Ground(2, 1)))
        self.assertEqual(high.goal(), Nest(Ground(2, 2), [((0, 1),)]))
        self.assertEqual([part.goal() for part in parted(house, 2)], [None, None])
        house.do(("goal", tuple(ONE.codes())))
        low, high = parted(house, 2)
        self.assertEqual(low.goal(), Nest(Ground(2, 2), [((0, 1),)]))
        self.assertEqual(high.goal(), standard(Ground(2, 1)))
        self.assertEqual([part.goal() for part in parted(house, 1)], [None, None])
        house.do(("goal", tuple(F.codes())))
        house.do(("nail", 2))
        house.do(("nail", 1))
        self.assertEqual([part.stand() for part in parted(house, 2)],
                         [(standard(Ground(2, 2)), (1,), standard(Ground(2, 2))),
                          (standard(Ground(2, 1)), (), standard(Ground(2, 1)))])
        self.assertEqual([part.nails() for part in parted(house, 1)], [[], [1]])

    def test_later_acts_change_no_other_house(self):
        one, other = House(F), House(H)
        one.keep("a")
        one.do(TO_G)
        other.do(TO_H)
        houses = [one, other]
        houses.append(beside(one, other))
        houses.append(beside(one, one))
        houses.extend(parted(houses[2], 3))
        for k, house in enumerate(houses):
            before = [state(one) for one in houses]
            house.do(("put",) + all_deeds(house.nest())[0])
            house.do(("goal", None))
            house.undo()
            house.keep("b")
            after_it = [state(one) for one in houses]
            self.assertEqual(after_it[:k] + after_it[k + 1:], before[:k] + before[k + 1:])
            self.assertNotEqual(after_it[k], before[k])

    def test_parting_changes_nothing(self):
        house = House(F)
        house.keep("a")
        house.tried([("nail", 1), ("goal", tuple(F.codes())), ("nail", 2)])
        house.undo()
        before = state(house)
        low, high = parted(house, 1)
        high.do(("put", 1, ((0, 1),)))
        low.do(("turn",))
        self.assertEqual(state(house), before)

    def test_unlike_primes(self):
        for p, q in itertools.permutations([2, 3, 13], 2):
            for n, m in itertools.product([0, 1, 3], repeat=2):
                one, other = House(standard(Ground(p, n))), House(standard(Ground(q, m)))
                self.raises(one, UnlikeGrounds, beside, one, other)
                self.raises(other, UnlikeGrounds, beside, one, other)
