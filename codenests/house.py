"""Houses: a nest that is brought to a goal, with an account of its deeds."""

from codenests.acts import after
from codenests.errors import BadAct, NoLevel, NothingDone, UnknownName
from codenests.goals import is_parting, nest_beside, parted_nests
from codenests.nests import is_level
from codenests.ways import any_way, deeds_apart, first_deeds
from codenests.words import is_word

MOST_ACTS = 120


def stands_behind(stand, acts, room):
    """The stands behind each of some acts, of which there is room for so many."""
    stands = []
    last = stand
    for act in acts:
        last = after(last, act)
        if len(stands) == room:
            raise BadAct("many")
        stands.append(last)
    return stands


def count_puts(acts):
    """How many of some acts put a code in the place of another one."""
    return len([act for act in acts if act[0] == "put"])


class House:
    """A stand and what led to it: acts that are done, undone and done again."""

    def __init__(self, nest):
        # The stand with which the house began, and the one behind each done act.
        self._stands = [(nest, (), None)]
        self._done = []
        self._undone = []
        self._marks = {}

    def stand(self):
        """The present stand: the nest, the nailed levels and the goal."""
        return self._stands[-1]

    def nest(self):
        """The present nest."""
        nest, _, _ = self.stand()
        return nest

    def goal(self):
        """The goal, or None."""
        _, _, goal = self.stand()
        return goal

    def nails(self):
        """The ascending list of the nailed levels."""
        _, nails, _ = self.stand()
        return list(nails)

    def do(self, act):
        """Do an act, which may be anything; return the number of done acts."""
        return self.tried([act])

    def tried(self, acts):
        """Do all of some acts, or none of them; return the number of done acts."""
        stands = stands_behind(self.stand(), acts, MOST_ACTS - len(self._done))
        if len(stands) > 0:
            self._stands.extend(stands)
            self._done.extend(acts)
            self._undone = []
        return len(self._done)

    def would(self, acts):
        """The stand to which some acts would lead."""
        return ([self.stand()] + stands_behind(self.stand(), acts, MOST_ACTS - len(self._done)))[-1]

    def undo(self):
        """Go back behind the last done act; return the number of done acts."""
        if len(self._done) == 0:
            raise NothingDone()
        self._undone.insert(0, self._done.pop())
        self._stands.pop()
        return len(self._done)

    def redo(self):
        """Do the first undone act again; return the number of done acts."""
        if len(self._undone) == 0:
            raise NothingDone()
        act = self._undone.pop(0)
        self._stands.append(after(self.stand(), act))
        self._done.append(act)
        return len(self._done)

    def done(self):
        """The list of the done acts."""
        return list(self._done)

    def undone(self):
        """The list of the undone acts, from the first one on."""
        return list(self._undone)

    def paid(self):
        """How many deeds were done."""
        return count_puts(self._done)

    def left(self):
        """The fewest deeds from the nest to the goal; None without a goal."""
        return None if self.goal() is None else deeds_apart(self.nest(), self.goal())

    def waste(self):
        """How many deeds more it will have been since the goal came; None without a goal."""
        if self.goal() is None:
            return None
        begun = 0
        for k, act in enumerate(self._done):
            if act[0] == "goal":
                begun = k + 1
        nest, _, goal = self._stands[begun]
        return count_puts(self._done[begun:]) - deeds_apart(nest, goal) + self.left()

    def way(self):
        """Some fewest way to the goal, a list of deeds; None without a goal."""
        return None if self.goal() is None else any_way(self.nest(), self.goal())

    def next_deeds(self):
        """The list of the deeds that begin a fewest way; None without a goal."""
        return None if self.goal() is None else first_deeds(self.nest(), self.goal())

    def keep(self, name):
        """Keep the present nest under a name, which may be anything."""
        if not is_word(name):
            raise UnknownName(name)
        self._marks[name] = self.nest()

    def marks(self):
        """The list of the names of the marks, as they first were kept."""
        return list(self._marks)

    def marked(self, name):
        """The nest that is kept under a name, which may be anything."""
        if not is_word(name) or name not in self._marks:
            raise UnknownName(name)
        return self._marks[name]

    def deeds_to(self, name):
        """The fewest deeds from the nest to a mark; the name may be anything."""
        return deeds_apart(self.nest(), self.marked(name))

    def twin(self):
        """An equal house that goes its own way."""
        other = House(self.nest())
        other._stands = list(self._stands)
        other._done = list(self._done)
        other._undone = list(self._undone)
        other._marks = dict(self._marks)
        return other

    def __eq__(self, other):
        if not isinstance(other, House) or self._stands[0] != other._stands[0]:
            return False
        if self._done != other._done or self._undone != other._undone:
            return False
        return list(self._marks.items()) == list(other._marks.items())


def house_at(stand):
    """The house that begins with a stand."""
    nest, _, _ = stand
    house = House(nest)
    house._stands = [stand]
    return house


def beside(one, other):
    """The house of two houses that are put beside one another."""
    nest, nails, goal = one.stand()
    nest_there, nails_there, goal_there = other.stand()
    both = nest_beside(nest, nest_there)
    shifted = tuple([nest.ground().n() + level for level in nails_there])
    no_goal = goal is None or goal_there is None
    return house_at((both, nails + shifted, None if no_goal else nest_beside(goal, goal_there)))


def parted(house, level):
    """The two houses into which a house is parted at a level, which may be anything."""
    nest, nails, goal = house.stand()
    if not is_level(nest.ground(), level) or not is_parting(nest, level):
        raise NoLevel(level)
    low, high = parted_nests(nest, level)
    low_goal, high_goal = None, None
    if goal is not None and is_parting(goal, level):
        low_goal, high_goal = parted_nests(goal, level)
    low_nails = tuple([nail for nail in nails if nail < level])
    high_nails = tuple([nail - level for nail in nails if nail > level])
    return house_at((low, low_nails, low_goal)), house_at((high, high_nails, high_goal))
