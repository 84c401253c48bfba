"""Calls as in `calls`, of the functions about opposite and turned nests, and of houses and consoles."""

from codenests import acts, goals, nests, opposites, sides
from codenests.console import Console
from codenests.grounds import Ground
from codenests.house import House, beside, parted
from codenests.nests import Nest
from tests.calls_of_maps import HIGH, LOW, MAP, one_nest, other_nest, third_nest, unlike_nest

FIRST = (1, ((0, 1, 1),))
PUT = ("put",) + FIRST


def calls_of_opposites_and_sides():
    ground, one, other = Ground(3, 3), one_nest(), other_nest()
    across = sides.turned(nests.standard(ground))
    lines = [Nest(Ground(2, 2), [(row,)]) for row in [(1, 0), (0, 1), (1, 1)]]
    return [
        ("are_opposite", opposites.are_opposite, [one, other]),
        ("are_opposite unlike", opposites.are_opposite, [one, unlike_nest()]),
        ("count_opposite", opposites.count_opposite, [ground]),
        ("lines_of", opposites.lines_of, [nests.standard(ground), across]),
        ("lines_of none", opposites.lines_of, [one, one]),
        ("lines_of unlike", opposites.lines_of, [one, unlike_nest()]),
        ("opposite_to", opposites.opposite_to, [[one, other, third_nest(), across]]),
        ("opposite_to none", opposites.opposite_to, [list(lines)]),
        ("opposite_to unlike", opposites.opposite_to, [[one, unlike_nest()]]),
        ("turned_code", sides.turned_code, [ground, HIGH]),
        ("turned", sides.turned, [one]),
        ("turned_order", sides.turned_order, [(1, 2, 0)]),
        ("coordinates", sides.coordinates, [ground, HIGH, (1, 1, 0)]),
        ("coordinates outside", sides.coordinates, [ground, HIGH, (1, 1, 1)]),
        ("short_rest", sides.short_rest, [ground, HIGH, (1, 1, 1)]),
        ("within", sides.within, [other, HIGH]),
        ("beyond", sides.beyond, [other, LOW]),
    ]


def calls_of_goals_and_acts():
    one, other, unlike = one_nest(), other_nest(), unlike_nest()
    script = [FIRST, (2, ((1, 0, 0), (0, 1, 1))), (1, ((1, 0, 0),))]
    stand = (one, (1,), None)
    return [
        ("left_after", goals.left_after, [one, other, list(script)]),
        ("left_after unlike", goals.left_after, [one, unlike, list(script)]),
        ("waste", goals.waste, [one, other, list(script)]),
        ("waste unlike", goals.waste, [one, unlike, list(script)]),
        ("barred_levels", goals.barred_levels, [one, other, [2, 1, 2]]),
        ("barred_levels unlike", goals.barred_levels, [one, unlike, [2, 1, 2]]),
        ("nest_beside", goals.nest_beside, [one, other]),
        ("nest_beside unlike", goals.nest_beside, [one, unlike]),
        ("act_word", acts.act_word, [stand, ("free", 1)]),
        ("act_word nail", acts.act_word, [stand, PUT]),
        ("act_word member", acts.act_word, [stand, ("goal", [LOW, [HIGH]])]),
        ("act_word list", acts.act_word, [stand, list(PUT)]),
        ("after", acts.after, [(one, (), other), PUT]),
        ("after bad", acts.after, [stand, PUT]),
        ("after member", acts.after, [stand, ("lead", [list(row) for row in MAP])]),
        ("after list", acts.after, [stand, list(PUT)]),
    ]


def made_house():
    """A house with done and undone acts, a goal, a nailed level and marks."""
    house = House(one_nest())
    house.keep("start")
    house.tried([PUT, ("goal", tuple(other_nest().codes())), ("put", 2, ((1, 0, 0), (0, 1, 1))), ("turn",), ("turn",)])
    house.undo()
    house.keep("here")
    return house


def nailed_house():
    house = House(nests.standard(Ground(3, 3)))
    house.tried([("nail", 1), ("goal", (((1, 0, 0),), ((1, 0, 0), (0, 0, 1))))])
    return house


def on_a_house(method):
    """A call of a method of a house that is made anew for each call."""
    return lambda *passed: getattr(made_house(), method)(*passed)


def on_a_console(*lines):
    """A call of a console of a house that is made anew, and in the end the whole house."""
    console = Console(made_house())
    return tuple([console.say(line) for line in lines]), console.house()


def calls_of_houses():
    house, nailed = made_house(), nailed_house()
    acts_of_turning = [("turn",), PUT, ("turn",)]
    return [
        ("House", House, [one_nest()]),
        ("house nest", house.nest, []),
        ("house goal", house.goal, []),
        ("house goal none", House(one_nest()).goal, []),
        ("house nails", nailed.nails, []),
        ("house stand", nailed.stand, []),
        ("house do", on_a_house("do"), [("turn",)]),
        ("house do bad", on_a_house("do"), [("put", 1, [[1]])]),
        ("house do list", on_a_house("do"), [list(PUT)]),
        ("house undo", on_a_house("undo"), []),
        ("house undo none", House(one_nest()).undo, []),
        ("house redo", on_a_house("redo"), []),
        ("house redo none", House(one_nest()).redo, []),
        ("house done", house.done, []),
        ("house undone", house.undone, []),
        ("house tried", on_a_house("tried"), [[("goal", None), ("turn",), ("turn",)]]),
        ("house tried bad", on_a_house("tried"), [list(acts_of_turning)]),
        ("house tried bad member", on_a_house("tried"), [[("turn",), ["turn"]]]),
        ("house would", house.would, [[("goal", None), ("turn",)]]),
        ("house would bad", house.would, [list(acts_of_turning)]),
        ("house paid", house.paid, []),
        ("house left", house.left, []),
        ("house left none", House(one_nest()).left, []),
        ("house waste", house.waste, []),
        ("house waste none", House(one_nest()).waste, []),
        ("house way", house.way, []),
        ("house way none", House(one_nest()).way, []),
        ("house next_deeds", house.next_deeds, []),
        ("house next_deeds none", House(one_nest()).next_deeds, []),
        ("house keep", on_a_house("keep"), ["there"]),
        ("house keep list", on_a_house("keep"), [["there"]]),
        ("house marks", house.marks, []),
        ("house marked", house.marked, ["start"]),
        ("house marked none", house.marked, [{"start": []}]),
        ("house deeds_to", house.deeds_to, ["start"]),
        ("house deeds_to none", house.deeds_to, ["begin"]),
        ("house twin", house.twin, []),
        ("beside", beside, [house, nailed]),
        ("beside unlike", beside, [house, House(unlike_nest())]),
        ("parted", parted, [nailed, 1]),
        ("parted no level", parted, [nailed, [1]]),
    ]


def calls_of_consoles():
    house = made_house()
    lines = ["show", "left", "paid", "order", "way", "nails", "at 2", "to start", "undo", "redo", "keep a", "turn",
             "goal"]
    return [
        ("Console", Console, [house]),
        ("console house", Console(house).house, []),
        ("console say", Console(house).say, ["show"]),
        ("console say way", Console(house).say, ["way"]),
        ("console say no", Console(house).say, ["put 1 [(1, 2, 0)]"]),
        ("console say wrong", Console(house).say, ["put 1 [(1, 2, 0"]),
        ("console says", on_a_console, lines),
    ]
