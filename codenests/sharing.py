"""Whether nests share a frame, and what shows it."""

from codenests.codes import is_in, rest
from codenests.frames import are_rows
from codenests.meets import common
from codenests.nests import shared_ground
from codenests.rows import row_fault
from codenests.squares import rank, reduced
from codenests.words import is_number


def shared_code(nests, places):
    """The code that the codes of the nests at their places have in common."""
    ground = nests[0].ground()
    code = ground.units()
    for nest, place in zip(nests, places):
        code = common(ground, code, nest.code(place))
    return code


def lower_places(places):
    """The tuples of places with one number less by 1."""
    return [places[:k] + (place - 1,) + places[k + 1:] for k, place in enumerate(places) if place > 0]


def code_below(nests, places):
    """The joined code of the shared codes at all tuples of lower places."""
    rows = [row for lower in lower_places(places) for row in shared_code(nests, lower)]
    return reduced(nests[0].ground(), rows)


def fresh_rows(nests, places):
    """Rows of the shared code that are a base of what it has beyond those below."""
    ground = nests[0].ground()
    below = code_below(nests, places)
    return reduced(ground, [rest(ground, below, row) for row in shared_code(nests, places)])


def fresh(nests, places):
    """The fresh number of a tuple of places."""
    shared_ground(nests)
    return len(fresh_rows(nests, places))


def all_places(nests):
    """All tuples of places, one for each nest."""
    found = [()]
    for nest in nests:
        found = [places + (place,) for places in found for place in range(nest.ground().n() + 1)]
    return found


def share(nests):
    """Some paper that shows whether nests share a frame."""
    n = shared_ground(nests).n()
    pairs = [(places, row) for places in all_places(nests) for row in fresh_rows(nests, places)]
    if len(pairs) == n:
        return "frame", tuple([row for _, row in pairs])
    return "fresh", tuple(pairs[:n + 1])


def is_shared_frame(nests, value):
    """Whether value, which may be anything, is the tuple of the rows of a shared frame."""
    ground = nests[0].ground()
    n = ground.n()
    if not are_rows(ground, value) or rank(ground, value) < n:
        return False
    for nest in nests:
        for i in range(n + 1):
            # Rows of a base span a code if as many as its rank are in it.
            if len([row for row in value if is_in(ground, nest.code(i), row)]) < i:
                return False
    return True


def is_place(nests, value):
    """Whether value, which may be anything, is a tuple of places."""
    n = nests[0].ground().n()
    if not isinstance(value, tuple) or len(value) != len(nests):
        return False
    return all([is_number(place) and place <= n for place in value])


def are_fresh(nests, places, rows):
    """Whether rows lie in the shared code and are independent beyond those below."""
    ground = nests[0].ground()
    code = shared_code(nests, places)
    below = code_below(nests, places)
    if not all([is_in(ground, code, row) for row in rows]):
        return False
    return rank(ground, list(below) + rows) == len(below) + len(rows)


def are_fresh_pairs(nests, value):
    """Whether value, which may be anything, has more fresh rows than a frame."""
    ground = nests[0].ground()
    if not isinstance(value, tuple) or len(value) != ground.n() + 1:
        return False
    found = {}
    for pair in value:
        if not isinstance(pair, tuple) or len(pair) != 2 or not is_place(nests, pair[0]):
            return False
        if row_fault(ground, pair[1]) is not None:
            return False
        found.setdefault(pair[0], []).append(pair[1])
    return all([are_fresh(nests, places, rows) for places, rows in found.items()])


def judge_share(nests, value):
    """Whether value, which may be anything, is a right paper of one of the two kinds."""
    shared_ground(nests)
    if not isinstance(value, tuple) or len(value) != 2:
        return False
    if value[0] == "frame":
        return is_shared_frame(nests, value[1])
    return value[0] == "fresh" and are_fresh_pairs(nests, value[1])
