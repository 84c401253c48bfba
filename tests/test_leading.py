import itertools
import unittest

from codenests.counting import count_at
from codenests.deeds import all_deeds, done
from codenests.differences import order_of
from codenests.errors import BadMap, TooGreat, UnlikeGrounds
from codenests.frames import frame_of, is_frame, judge_frame
from codenests.grounds import Ground
from codenests.leading import (all_kept, count_keeping, count_leading, judge_leading, leading_paper, leads, led,
                               led_part, map_between, maps_kept, nest_map)
from codenests.maps import led_code, led_row, then, turned_back, unit_map
from codenests.nests import Nest, standard
from codenests.numbering import nest_off
from codenests.parts import Part, is_over, part_of
from codenests.ways import deeds_apart
from tests import brute
from tests.anything import GREAT, NEGATIVE, deep, no_integers
from tests.test_differences import F, G, H, opposite, some_nests
from tests.test_maps import led_by_words, maps_by_rows, some_maps, wrong_maps

SMALL = [(2, 0), (5, 0), (2, 1), (5, 1), (2, 2), (3, 2)]

# The nests of the example S8.8.
P = Nest(Ground(3, 2), [((1, 0),)])
Q = Nest(Ground(3, 2), [((1, 1),)])


def nests_of_ground(p, n):
    return [Nest(Ground(p, n), codes) for codes in brute.all_nests(p, n)]


def led_by_rows(p, n, one, codes):
    """Where a map leads codes by S8.1, from the sets of all rows."""
    return [brute.base_of_span(frozenset(led_by_words(p, n, one, row) for row in brute.span(p, n, code)))
            for code in codes]


def leading_by_rows(f, g, f2, g2):
    """All maps that lead f to f2 and g to g2, ascending."""
    p, n = f.ground().p(), f.ground().n()
    return [one for one in maps_by_rows(p, n) if led_by_rows(p, n, one, f.codes()) == f2.codes()
            and led_by_rows(p, n, one, g.codes()) == g2.codes()]


def some_fours(p, n, many, seed):
    nests = some_nests(p, n, 2 * many, seed)
    for f, g in zip(nests[::2], nests[1::2]):
        one = some_maps(p, n, 1, seed)[0]
        yield f, g, led(f, one), led(g, one)
        yield f, g, g, f
        yield f, f, g, g
        yield f, g, f, f
        yield f, g, f, g


def fours_of_all_kinds():
    for p, n in SMALL:
        yield from itertools.product(nests_of_ground(p, n), repeat=4)
    yield from list(itertools.product(nests_of_ground(2, 3), repeat=4))[::97]
    for p, n in [(3, 3), (2, 4), (5, 3), (13, 6)]:
        yield from some_fours(p, n, 8, 10 * p + n)


class Led(unittest.TestCase):
    def test_nests_and_partial_nests(self):
        for p, n in SMALL + [(2, 3)]:
            for one in maps_by_rows(p, n)[::3]:
                for nest in nests_of_ground(p, n):
                    codes = led_by_rows(p, n, one, nest.codes())
                    self.assertEqual(led(nest, one), Nest(nest.ground(), codes))
                    for many in range(n):
                        for levels in itertools.combinations(range(1, n), many):
                            part = led_part(part_of(nest, levels), one)
                            self.assertEqual(part, Part(nest.ground(), [codes[level - 1] for level in levels]))

    def test_great_grounds(self):
        for p, n in [(13, 6), (2, 6)]:
            for nest, one in zip(some_nests(p, n, 5, 81), some_maps(p, n, 5, 82)):
                found = led(nest, one)
                for i in range(n + 1):
                    rows = [led_by_words(p, n, one, row) for row in nest.code(i)]
                    self.assertEqual(found.code(i), brute.echelon(p, rows))
                part = part_of(nest, [1, 4])
                self.assertTrue(is_over(found, led_part(part, one)))
                self.assertEqual(led_part(part, one), part_of(found, [1, 4]))
                self.assertEqual(led(found, turned_back(nest.ground(), one)), nest)

    def test_deeds(self):
        for p, n in [(3, 2), (2, 3), (3, 3), (13, 4)]:
            for nest, one in zip(some_nests(p, n, 6, 83), some_maps(p, n, 6, 84)):
                for level, code in all_deeds(nest):
                    deed = (level, led_code(nest.ground(), one, code))
                    self.assertEqual(done(led(nest, one), deed), led(done(nest, (level, code)), one))

    def test_what_stays(self):
        for p, n in [(3, 2), (2, 3), (3, 4), (13, 6)]:
            nests = some_nests(p, n, 6, 85)
            for f, g in zip(nests, nests[1:]):
                for one in some_maps(p, n, 3, 86):
                    f2, g2 = led(f, one), led(g, one)
                    self.assertEqual(order_of(f2, g2), order_of(f, g))
                    self.assertEqual(deeds_apart(f2, g2), deeds_apart(f, g))
                    rows = tuple(led_row(f.ground(), one, row) for row in frame_of(f, g))
                    self.assertTrue(is_frame(f2, g2, rows))

    def test_the_unit_map(self):
        for p, n in SMALL + [(13, 6)]:
            for nest in some_nests(p, n, 3, 87):
                self.assertEqual(led(nest, unit_map(nest.ground())), nest)
                part = Part(nest.ground(), nest.codes())
                self.assertEqual(led_part(part, unit_map(nest.ground())), part)

    def test_wrong_maps(self):
        nest = standard(Ground(3, 3))
        for value, path in wrong_maps():
            for refuse in [lambda one: led(nest, one), lambda one: led_part(part_of(nest, [1]), one),
                           lambda one: led_part(part_of(nest, []), one)]:
                with self.assertRaises(BadMap) as caught:
                    refuse(value)
                self.assertEqual(caught.exception.path, path)


class Leads(unittest.TestCase):
    def test_all_maps_of_small_grounds(self):
        for p, n in SMALL:
            maps = maps_by_rows(p, n)
            for f, g, f2, g2 in list(itertools.product(nests_of_ground(p, n), repeat=4))[::3]:
                right = leading_by_rows(f, g, f2, g2)
                for one in maps:
                    self.assertIs(leads(f, g, f2, g2, one), one in right)
                    self.assertIs(judge_leading(f, g, f2, g2, ("map", one)), one in right)

    def test_anything(self):
        nest = standard(Ground(3, 3))
        for value, _ in wrong_maps():
            self.assertIs(leads(nest, nest, nest, nest, value), False)
            self.assertIs(judge_leading(nest, nest, nest, nest, ("map", value)), False)
        self.assertIs(leads(nest, nest, nest, nest, unit_map(nest.ground())), True)

    def test_no_columns(self):
        nest = standard(Ground(5, 0))
        self.assertIs(leads(nest, nest, nest, nest, ()), True)
        for value in [None, [], ((),), 0, False]:
            self.assertIs(leads(nest, nest, nest, nest, value), False)


class MapsBetween(unittest.TestCase):
    def check(self, f, g, f2, g2):
        one = map_between(f, g, f2, g2)
        paper = leading_paper(f, g, f2, g2)
        if order_of(f, g) == order_of(f2, g2):
            self.assertTrue(leads(f, g, f2, g2, one))
            self.assertEqual((led(f, one), led(g, one)), (f2, g2))
            self.assertEqual((len(paper), paper[0]), (2, "map"))
            self.assertTrue(leads(f, g, f2, g2, paper[1]))
            self.assertGreater(count_leading(f, g, f2, g2), 0)
        else:
            self.assertIsNone(one)
            self.assertEqual((len(paper), paper[0]), (3, "orders"))
            self.assertTrue(judge_frame(f, g, paper[1]) and judge_frame(f2, g2, paper[2]))
            self.assertNotEqual(paper[1][0], paper[2][0])
            self.assertEqual(count_leading(f, g, f2, g2), 0)
        self.assertIs(type(paper), tuple)
        self.assertIs(judge_leading(f, g, f2, g2, paper), True)

    def test_fours_of_all_kinds(self):
        kinds = set()
        for f, g, f2, g2 in fours_of_all_kinds():
            self.check(f, g, f2, g2)
            kinds.add(map_between(f, g, f2, g2) is None)
        self.assertEqual(kinds, {True, False})

    def test_there_is_none_where_the_document_says_so(self):
        for p, n in [(2, 2), (3, 2)]:
            for f, g, f2, g2 in itertools.product(nests_of_ground(p, n), repeat=4):
                self.assertIs(map_between(f, g, f2, g2) is None, leading_by_rows(f, g, f2, g2) == [])

    def test_nest_map(self):
        for p, n in SMALL + [(2, 3), (3, 3), (13, 6)]:
            for f, f2 in itertools.product(some_nests(p, n, 5, 91), repeat=2):
                self.assertEqual(led(f, nest_map(f, f2)), f2)


class LeadingPapers(unittest.TestCase):
    def spoiled(self, paper):
        """Values that are like a paper and are none."""
        yield list(paper)
        yield paper + (paper[-1],)
        yield paper[:-1]
        yield paper[1:]
        yield ("maps",) + paper[1:]
        yield ("map" if paper[0] == "orders" else "orders",) + paper[1:]
        yield (paper[0],) + tuple(list(part) for part in paper[1:])
        for value in no_integers() + NEGATIVE + [0, 1, GREAT, F, "Map", "map ", deep(paper)]:
            yield value
            yield (value,) + paper[1:]
            for k in range(1, len(paper)):
                yield paper[:k] + (value,) + paper[k + 1:]
                for j in range(len(paper[k])):
                    yield paper[:k] + (paper[k][:j] + (value,) + paper[k][j + 1:],) + paper[k + 1:]

    def test_spoiled_papers(self):
        for f, g, f2, g2 in [(F, G, F, H), (F, H, F, H), (F, G, G, F), (H, G, F, F), (P, P, P, Q), (P, Q, Q, P)]:
            paper = leading_paper(f, g, f2, g2)
            self.assertIs(judge_leading(f, g, f2, g2, paper), True)
            for value in self.spoiled(paper):
                self.assertIs(judge_leading(f, g, f2, g2, value), False, value)

    def test_papers_of_other_nests(self):
        nests = nests_of_ground(2, 3)[::4] + [F, G, H]
        fours = list(itertools.product(nests, repeat=4))[::13]
        for f, g, f2, g2 in fours:
            for four in fours[::41]:
                paper = leading_paper(*four)
                if paper[0] == "map":
                    wanted = (led(f, paper[1]), led(g, paper[1])) == (f2, g2)
                else:
                    wanted = (judge_frame(f, g, paper[1]) and judge_frame(f2, g2, paper[2])
                              and paper[1][0] != paper[2][0])
                self.assertIs(judge_leading(f, g, f2, g2, paper), wanted)

    def test_never_one_of_each_kind(self):
        for f, g, f2, g2 in itertools.product([F, G, H], repeat=4):
            papers = [(order_of(*two), frame_of(*two)) for two in [(f, g), (f2, g2)]]
            value = ("orders",) + tuple(papers)
            self.assertIs(judge_leading(f, g, f2, g2, value), map_between(f, g, f2, g2) is None)
            self.assertIs(judge_leading(f, g, f2, g2, ("orders", papers[1], papers[0])),
                          papers[0][0] != papers[1][0] and judge_frame(f, g, papers[1])
                          and judge_frame(f2, g2, papers[0]))

    def test_wrong_orders_in_papers(self):
        rows = frame_of(F, G)
        other = (order_of(F, H), frame_of(F, H))
        self.assertIs(judge_leading(F, G, F, H, ("orders", ((2, 1, 0), rows), other)), True)
        for order in itertools.permutations(range(3)):
            if order != (2, 1, 0):
                self.assertIs(judge_leading(F, G, F, H, ("orders", (order, rows), other)), False)
        self.assertIs(judge_leading(F, G, F, H, ("orders", ((2, True, 0), rows), other)), False)


class HowMany(unittest.TestCase):
    def test_the_example(self):
        self.assertEqual(order_of(P, Q), (1, 0))
        self.assertEqual(maps_kept(P, Q), 4)
        self.assertEqual(count_keeping(P), 12)
        self.assertIn(((1, 0), (1, 2)), all_kept(P, Q))
        self.assertEqual(all_kept(P, Q), [((1, 0), (0, 1)), ((1, 0), (1, 2)), ((2, 0), (0, 2)), ((2, 0), (2, 1))])

    def test_lists_of_all_maps(self):
        for p, n in SMALL:
            for f, g, f2, g2 in list(itertools.product(nests_of_ground(p, n), repeat=4))[::5]:
                found = leading_by_rows(f, g, f2, g2)
                self.assertEqual(count_leading(f, g, f2, g2), len(found))
        nests = nests_of_ground(2, 3)
        for f, g, f2, g2 in zip(nests, nests[3:] + nests, nests[5:] + nests, nests[7:] + nests):
            self.assertEqual(count_leading(f, g, f2, g2), len(leading_by_rows(f, g, f2, g2)))

    def test_all_kept(self):
        pairs = [pair for p, n in SMALL for pair in itertools.product(nests_of_ground(p, n), repeat=2)]
        nests = nests_of_ground(2, 3)
        for f, g in pairs + list(zip(nests, nests)) + list(zip(nests, nests[4:] + nests)):
            found = leading_by_rows(f, g, f, g)
            self.assertEqual(all_kept(f, g), found)
            self.assertEqual(maps_kept(f, g), len(found))
            self.assertIs(type(all_kept(f, g)), list)

    def test_greater_grounds(self):
        for p, n, many in [(3, 3, 12), (2, 4, 12), (5, 3, 6), (13, 2, 4), (2, 5, 4)]:
            for f, g in zip(some_nests(p, n, many, 92), some_nests(p, n, many, 93)):
                order = order_of(f, g)
                rises = sum(order[a] < order[b] for b in range(n) for a in range(b))
                wanted = (p - 1) ** n * p ** rises
                self.assertEqual(maps_kept(f, g), wanted)
                self.assertEqual(count_leading(f, g, f, g), wanted)
                if wanted <= 2000:
                    kept = all_kept(f, g)
                    self.assertEqual(kept, sorted(set(kept)))
                    self.assertEqual(len(kept), wanted)
                    self.assertTrue(all(leads(f, g, f, g, one) for one in kept[::7]))
                else:
                    with self.assertRaises(TooGreat):
                        all_kept(f, g)

    def test_kept_maps_go_together(self):
        ground = P.ground()
        for one, other in itertools.product(all_kept(P, Q), repeat=2):
            self.assertIn(then(ground, one, other), all_kept(P, Q))
            self.assertIn(turned_back(ground, one), all_kept(P, Q))

    def test_count_keeping(self):
        for p, n in SMALL + [(2, 3)]:
            maps = maps_by_rows(p, n)
            for nest in nests_of_ground(p, n):
                kept = sum(led_by_rows(p, n, one, nest.codes()) == nest.codes() for one in maps)
                self.assertEqual(count_keeping(nest), kept)
        for p, n in [(13, 6), (2, 6)]:
            self.assertEqual(count_keeping(standard(Ground(p, n))), (p - 1) ** n * p ** (n * (n - 1) // 2))

    def test_the_sentence_of_one_nest_and_an_order(self):
        for p, n in [(2, 3), (3, 3), (13, 5)]:
            for f, g in zip(some_nests(p, n, 5, 94), some_nests(p, n, 5, 95)):
                self.assertEqual(count_keeping(f), count_at(f.ground(), order_of(f, g)) * maps_kept(f, g))

    def test_too_great(self):
        for p, n in [(13, 3), (3, 4), (13, 6)]:
            nest = standard(Ground(p, n))
            with self.assertRaises(TooGreat):
                all_kept(nest, nest)
        nest, other = standard(Ground(13, 3)), opposite(Ground(13, 3))
        self.assertEqual(maps_kept(nest, other), 1728)
        self.assertEqual(len(all_kept(nest, other)), 1728)
        # The nearest numbers to 2,000 that there are.
        nest = standard(Ground(13, 2))
        self.assertEqual(len(all_kept(nest, nest)), 1872)
        nest = standard(Ground(2, 6))
        other = nest_off(nest, (4, 0, 1, 2, 3, 5), [0, 0, 0, 0])
        self.assertEqual(maps_kept(nest, other), 2048)
        with self.assertRaises(TooGreat):
            all_kept(nest, other)
        nest, other = standard(Ground(2, 5)), opposite(Ground(2, 5))
        self.assertEqual(all_kept(nest, other), [unit_map(Ground(2, 5))])
        self.assertEqual(len(all_kept(nest, nest)), 1024)

    def test_small_grounds(self):
        for p, n in [(2, 0), (13, 0), (13, 1)]:
            nest = standard(Ground(p, n))
            self.assertEqual(count_keeping(nest), (p - 1) ** n)
            self.assertEqual(maps_kept(nest, nest), (p - 1) ** n)
            self.assertEqual(all_kept(nest, nest), [((k,),) for k in range(1, p)] if n == 1 else [()])


class Unlike(unittest.TestCase):
    def test_unlike_grounds_come_first(self):
        nests = [standard(Ground(p, n)) for p, n in [(2, 0), (3, 0), (2, 1), (2, 3), (3, 3), (2, 4)]]
        for f, g in itertools.permutations(nests, 2):
            for function in [nest_map, maps_kept, all_kept]:
                with self.assertRaises(UnlikeGrounds):
                    function(f, g)
            for four in [(g, f, f, f), (f, g, f, f), (f, f, g, f), (f, f, f, g), (f, f, g, g), (f, g, f, g)]:
                for function in [map_between, leading_paper, count_leading]:
                    with self.assertRaises(UnlikeGrounds):
                        function(*four)
                for value in [None, (), ("map", None), ("map", unit_map(f.ground())), unit_map(f.ground()), 7, []]:
                    for function in [leads, judge_leading]:
                        with self.assertRaises(UnlikeGrounds):
                            function(*four, value)

    def test_ahead_of_too_great(self):
        with self.assertRaises(UnlikeGrounds):
            all_kept(standard(Ground(13, 6)), standard(Ground(13, 5)))
