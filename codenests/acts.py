"""Acts: what leads from one stand of a house to another one.

A stand is a tuple of a nest, the ascending tuple of the nailed levels and the
goal, a nest or None.
"""

from codenests.deeds import done, is_deed
from codenests.errors import BadAct
from codenests.leading import led
from codenests.maps import is_map
from codenests.nests import Nest, is_level, nest_fault
from codenests.sides import turned

# How many members the acts have that begin with these words.
MEMBERS = {"put": 3, "nail": 2, "free": 2, "goal": 2, "lead": 2, "turn": 1}


def has_form(act):
    """Whether a value, which may be anything, begins as acts do and is as long."""
    if not isinstance(act, tuple) or len(act) == 0 or not isinstance(act[0], str):
        return False
    return act[0] in MEMBERS and len(act) == MEMBERS[act[0]]


def put_word(stand, act):
    """Why a value with the form of an act that puts a code is none, or None."""
    nest, nails, _ = stand
    if not is_deed(nest, act[1:]):
        return "deed"
    return "nail" if act[1] in nails else None


def nail_word(stand, act):
    """Why a value with the form of an act that nails a level is none, or None."""
    nest, nails, goal = stand
    level = act[1]
    if not is_level(nest.ground(), level) or level in nails:
        return "level"
    return "goal" if goal is not None and goal.code(level) != nest.code(level) else None


def free_word(stand, act):
    """Why a value with the form of an act that frees a level is none, or None."""
    nest, nails, _ = stand
    return None if is_level(nest.ground(), act[1]) and act[1] in nails else "level"


def goal_word(stand, act):
    """Why a value with the form of an act that sets a goal is none, or None."""
    nest, nails, _ = stand
    codes = act[1]
    if codes is None:
        return None
    if not isinstance(codes, tuple) or nest_fault(nest.ground(), codes) is not None:
        return "nest"
    return None if all([codes[level - 1] == nest.code(level) for level in nails]) else "nail"


def lead_word(stand, act):
    """Why a value with the form of an act that leads by a map is none, or None."""
    nest, _, _ = stand
    return None if is_map(nest.ground(), act[1]) else "map"


def turn_word(stand, act):
    """None, as the act that turns nest and goal is one at each stand."""
    return None


WORDS = {"put": put_word, "nail": nail_word, "free": free_word, "goal": goal_word, "lead": lead_word,
         "turn": turn_word}


def act_word(stand, act):
    """The word that tells why act, which may be anything, is none; None if it is one."""
    if not has_form(act):
        return "form"
    told = WORDS[act[0]]
    return told(stand, act)


def put(stand, act):
    """The stand behind an act that puts a code in the place of another one."""
    nest, nails, goal = stand
    return done(nest, act[1:]), nails, goal


def nailed(stand, act):
    """The stand behind an act that nails a level."""
    nest, nails, goal = stand
    return nest, tuple(sorted(nails + (act[1],))), goal


def freed(stand, act):
    """The stand behind an act that frees a level."""
    nest, nails, goal = stand
    return nest, tuple([level for level in nails if level != act[1]]), goal


def with_goal(stand, act):
    """The stand behind an act that sets a goal, or none."""
    nest, nails, _ = stand
    return nest, nails, None if act[1] is None else Nest(nest.ground(), act[1])


def led_along(stand, act):
    """The stand behind an act that leads the nest and the goal by a map."""
    nest, nails, goal = stand
    return led(nest, act[1]), nails, None if goal is None else led(goal, act[1])


def turned_round(stand, act):
    """The stand behind an act that turns the nest and the goal."""
    nest, nails, goal = stand
    n = nest.ground().n()
    return turned(nest), tuple(sorted([n - level for level in nails])), None if goal is None else turned(goal)


ACTS = {"put": put, "nail": nailed, "free": freed, "goal": with_goal, "lead": led_along, "turn": turned_round}


def after(stand, act):
    """The stand to which act, which may be anything, leads from a stand."""
    word = act_word(stand, act)
    if word is not None:
        raise BadAct(word)
    go = ACTS[act[0]]
    return go(stand, act)
