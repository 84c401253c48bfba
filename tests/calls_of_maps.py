"""Calls as in `calls`, of numbering and of the functions about maps and partial nests."""

from codenests import frames, gates, leading, maps, nests, numbering, sharing, tables
from codenests.grounds import Ground
from codenests.nests import Nest
from codenests.parts import Part

MAP = ((1, 2, 0), (0, 1, 1), (2, 0, 1))
LOW = ((1, 0, 2),)
HIGH = ((1, 0, 2), (0, 1, 1))


def one_nest():
    return Nest(Ground(3, 3), [LOW, HIGH])


def other_nest():
    return Nest(Ground(3, 3), [((0, 1, 2),), ((1, 0, 0), (0, 1, 2))])


def third_nest():
    return Nest(Ground(3, 3), [((1, 1, 1),), ((1, 1, 0), (0, 0, 1))])


def unlike_nest():
    return nests.standard(Ground(2, 3))


def calls_of_numbering():
    ground, nest, other = Ground(3, 3), one_nest(), other_nest()
    return [
        ("normal_order", numbering.normal_order, [nest]),
        ("normal_rows", numbering.normal_rows, [nest]),
        ("digits", numbering.digits, [other]),
        ("nest_of", numbering.nest_of, [ground, (1, 2, 0), [1, 2]]),
        ("nest_of list", numbering.nest_of, [ground, [1, 2, 0], [1, 2]]),
        ("nest_of entry", numbering.nest_of, [ground, (1, [2], 0), [1, 2]]),
        ("nest_of bad digit", numbering.nest_of, [ground, (1, 2, 0), [1, 3]]),
        ("nest_of bad member", numbering.nest_of, [ground, (1, 2, 0), [[1], 2]]),
        ("nest_of no digits", numbering.nest_of, [ground, (1, 2, 0), {"a": [1]}]),
        ("nest_off", numbering.nest_off, [nest, (1, 2, 0), [1, 2]]),
        ("nest_off list", numbering.nest_off, [nest, [1, 2, 0], [1, 2]]),
        ("nest_off bad digit", numbering.nest_off, [nest, (1, 2, 0), [1, 3]]),
        ("off", numbering.off, [nest, other]),
        ("off unlike", numbering.off, [nest, unlike_nest()]),
        ("nest_at", numbering.nest_at, [ground, 33]),
        ("nest_at beyond", numbering.nest_at, [ground, 52]),
        ("number_of", numbering.number_of, [nest]),
        ("next_nest", numbering.next_nest, [nest]),
        ("next_nest none", numbering.next_nest, [numbering.nest_at(ground, 51)]),
        ("nests_from", numbering.nests_from, [ground]),
        ("nests_from keywords", lambda one: numbering.nests_from(one, number=49, many=7), [ground]),
        ("drawn", numbering.drawn, [ground, 10 ** 50]),
    ]


def calls_of_maps():
    ground = Ground(3, 3)
    return [
        ("is_map", maps.is_map, [ground, MAP]),
        ("is_map list", maps.is_map, [ground, [list(row) for row in MAP]]),
        ("check_map", maps.check_map, [ground, MAP]),
        ("check_map list", maps.check_map, [ground, list(MAP)]),
        ("check_map entry", maps.check_map, [ground, MAP[:2] + ((1, [2], 3),)]),
        ("unit_map", maps.unit_map, [ground]),
        ("led_row", maps.led_row, [ground, MAP, (1, 2, 0)]),
        ("led_row list", maps.led_row, [ground, list(MAP), (1, 2, 0)]),
        ("led_code", maps.led_code, [ground, MAP, HIGH]),
        ("led_code list", maps.led_code, [ground, list(MAP), HIGH]),
        ("then", maps.then, [ground, MAP, MAP]),
        ("then list", maps.then, [ground, MAP, list(MAP)]),
        ("maps turned_back", maps.turned_back, [ground, MAP]),
        ("maps turned_back list", maps.turned_back, [ground, list(MAP)]),
        ("count_maps", maps.count_maps, [ground]),
        ("all_maps", maps.all_maps, [Ground(3, 2)]),
        ("all_maps beyond", maps.all_maps, [ground]),
    ]


def calls_of_leading():
    one, other, unlike = one_nest(), other_nest(), unlike_nest()
    led, led_other = leading.led(one, MAP), leading.led(other, MAP)
    four = [one, other, led, led_other]
    return [
        ("led", leading.led, [one, MAP]),
        ("led list", leading.led, [one, list(MAP)]),
        ("led_part", leading.led_part, [Part(Ground(3, 3), [HIGH]), MAP]),
        ("led_part list", leading.led_part, [Part(Ground(3, 3), [HIGH]), list(MAP)]),
        ("leads", leading.leads, four + [MAP]),
        ("leads list", leading.leads, four + [[list(row) for row in MAP]]),
        ("leads unlike", leading.leads, [one, other, led, unlike, MAP]),
        ("map_between", leading.map_between, list(four)),
        ("map_between none", leading.map_between, [one, other, led, led]),
        ("map_between unlike", leading.map_between, [one, other, unlike, led]),
        ("nest_map", leading.nest_map, [one, other]),
        ("nest_map unlike", leading.nest_map, [one, unlike]),
        ("leading_paper", leading.leading_paper, list(four)),
        ("leading_paper orders", leading.leading_paper, [one, other, led, led]),
        ("leading_paper unlike", leading.leading_paper, [one, unlike, one, unlike]),
        ("judge_leading", leading.judge_leading, four + [("map", MAP)]),
        ("judge_leading list", leading.judge_leading, four + [["map", [list(row) for row in MAP]]]),
        ("judge_leading unlike", leading.judge_leading, [one, unlike, one, one, ("map", MAP)]),
        ("count_leading", leading.count_leading, list(four)),
        ("count_leading unlike", leading.count_leading, [one, one, one, unlike]),
        ("maps_kept", leading.maps_kept, [one, other]),
        ("maps_kept unlike", leading.maps_kept, [one, unlike]),
        ("count_keeping", leading.count_keeping, [one]),
        ("all_kept", leading.all_kept, [one, other]),
        ("all_kept unlike", leading.all_kept, [one, unlike]),
        ("all_kept beyond", leading.all_kept, [nests.standard(Ground(13, 3))] * 2),
    ]


def calls_of_gates_and_tables():
    ground = Ground(3, 3)
    one, other, third, fourth = (Part(ground, [code]) for code in [LOW, HIGH, ((0, 1, 2),), ((1, 0, 0), (0, 1, 2))])
    unlike = Part(Ground(2, 3), [])
    triples = tables.part_frame(one, other)
    return [
        ("gate", gates.gate, [other, other_nest()]),
        ("gate unlike", gates.gate, [unlike, other_nest()]),
        ("inversions_within", gates.inversions_within, [other, (2, 0, 1)]),
        ("count_over_order", gates.count_over_order, [one, one_nest(), (0, 2, 1)]),
        ("count_over_order unlike", gates.count_over_order, [one, unlike_nest(), (0, 2, 1)]),
        ("all_over", gates.all_over, [one]),
        ("all_over beyond", gates.all_over, [Part(Ground(13, 3), [])]),
        ("part_table", tables.part_table, [one, other]),
        ("part_table unlike", tables.part_table, [one, unlike]),
        ("part_frame", tables.part_frame, [one, other]),
        ("part_frame unlike", tables.part_frame, [one, unlike]),
        ("judge_part_frame", tables.judge_part_frame, [one, other, list(triples)]),
        ("judge_part_frame bad member", tables.judge_part_frame, [one, other, [list(one) for one in triples]]),
        ("judge_part_frame unlike", tables.judge_part_frame, [one, unlike, list(triples)]),
        ("map_of_parts", tables.map_of_parts, [one, other, third, fourth]),
        ("map_of_parts none", tables.map_of_parts, [one, other, other, one]),
        ("map_of_parts unlike", tables.map_of_parts, [one, other, unlike, fourth]),
        ("count_table", tables.count_table, [3, ((1, 0), (1, 1))]),
        ("part_with", tables.part_with, [other, ((1, 0), (1, 1))]),
        ("part_with none", tables.part_with, [other, ((1, 0), (2, 0))]),
        ("all_tables", tables.all_tables, [[1, 2], [2, 1]]),
        ("all_tables none", tables.all_tables, [[1, 2], [2]]),
        ("all_tables beyond", tables.all_tables, [[2, 2, 1, 1, 1, 1], [2, 2, 1, 1, 1, 1]]),
    ]


def calls_of_sharing():
    one, other, third = one_nest(), other_nest(), third_nest()
    lines = [Nest(Ground(2, 2), [(row,)]) for row in [(1, 0), (0, 1), (1, 1)]]
    unlike = [one, other, unlike_nest()]
    paper = ("frame", frames.frame_of(one, other))
    return [
        ("fresh", sharing.fresh, [[one, other, third], (1, 2, 2)]),
        ("fresh unlike", sharing.fresh, [list(unlike), (1, 2, 2)]),
        ("share", sharing.share, [[one, other]]),
        ("share none", sharing.share, [list(lines)]),
        ("share unlike", sharing.share, [list(unlike)]),
        ("judge_share", sharing.judge_share, [[one, other], paper]),
        ("judge_share fresh", sharing.judge_share, [list(lines), sharing.share(lines)]),
        ("judge_share list", sharing.judge_share, [[one, other], ["frame", list(paper[1])]]),
        ("judge_share unlike", sharing.judge_share, [list(unlike), paper]),
    ]
