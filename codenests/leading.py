"""Where maps lead nests, and which maps lead two nests to two others."""

from codenests.codes import code_of, rows_of
from codenests.differences import paper_of
from codenests.errors import TooGreat
from codenests.frames import count_frames, judge_frame
from codenests.maps import MOST_MAPS, check_map, is_map, led_code, map_along
from codenests.nests import Nest, shared_ground
from codenests.parts import Part
from codenests.rows import added, scaled


def led_codes(ground, value, codes):
    """The list of the codes to which a map, which may be anything, leads codes."""
    check_map(ground, value)
    return [led_code(ground, value, code) for code in codes]


def led(nest, value):
    """The nest to which a map, which may be anything, leads a nest."""
    return Nest(nest.ground(), led_codes(nest.ground(), value, nest.codes()))


def led_part(part, value):
    """The partial nest to which a map, which may be anything, leads one."""
    return Part(part.ground(), led_codes(part.ground(), value, part.codes()))


def leads(f, g, f2, g2, value):
    """Whether value, which may be anything, is a map that leads f to f2 and g to g2."""
    ground = shared_ground([f, g, f2, g2])
    return is_map(ground, value) and led(f, value) == f2 and led(g, value) == g2


def leading_paper(f, g, f2, g2):
    """Some map that leads f to f2 and g to g2, or two papers whose orders differ."""
    ground = shared_ground([f, g, f2, g2])
    paper, other = paper_of(f, g), paper_of(f2, g2)
    if paper[0] != other[0]:
        return "orders", paper, other
    return "map", map_along(ground, paper[1], other[1])


def map_between(f, g, f2, g2):
    """Some map that leads f to f2 and g to g2; or None."""
    paper = leading_paper(f, g, f2, g2)
    return paper[1] if paper[0] == "map" else None


def nest_map(f, f2):
    """Some map that leads f to f2."""
    return map_between(f, f, f2, f2)


def judge_leading(f, g, f2, g2, value):
    """Whether value, which may be anything, is a leading paper."""
    shared_ground([f, g, f2, g2])
    if not isinstance(value, tuple) or len(value) not in (2, 3):
        return False
    if len(value) == 2:
        return value[0] == "map" and leads(f, g, f2, g2, value[1])
    if value[0] != "orders" or not judge_frame(f, g, value[1]) or not judge_frame(f2, g2, value[2]):
        return False
    return value[1][0] != value[2][0]


def count_leading(f, g, f2, g2):
    """How many maps lead f to f2 and g to g2."""
    # Each of them leads one frame of f and g to a frame of f2 and g2, and
    # each of these frames is that of one map.
    return 0 if map_between(f, g, f2, g2) is None else count_frames(f2, g2)


def maps_kept(f, g):
    """How many maps keep two nests."""
    return count_frames(f, g)


def count_keeping(nest):
    """How many maps keep a nest."""
    return count_frames(nest, nest)


def frame_rows(ground, order, rows, position):
    """The rows that can stand at a position of a frame, where rows are one."""
    lower = [rows[a] for a in range(position) if order[a] < order[position]]
    multiples = [scaled(ground, number, rows[position]) for number in range(1, ground.p())]
    return [added(ground, row, more) for row in multiples for more in rows_of(ground, code_of(ground, lower))]


def all_kept(f, g):
    """The ascending list of the maps that keep two nests."""
    ground = shared_ground([f, g])
    if maps_kept(f, g) > MOST_MAPS:
        raise TooGreat()
    order, rows = paper_of(f, g)
    frames = [()]
    for position in range(ground.n()):
        choices = frame_rows(ground, order, rows, position)
        frames = [begun + (row,) for begun in frames for row in choices]
    return sorted([map_along(ground, rows, frame) for frame in frames])
