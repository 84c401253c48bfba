import itertools
import random
import unittest

from codenests.differences import order_of
from codenests.errors import UnlikeGrounds
from codenests.frames import count_frames, frame_of, is_frame, judge_frame, nests_of
from codenests.grounds import Ground
from codenests.nests import Nest, standard
from tests import brute
from tests.anything import GREAT, NEGATIVE, deep, no_integers
from tests.test_differences import F, G, H, opposite, some_nests

SIZES = [(2, 0), (5, 0), (2, 1), (5, 1), (2, 2), (3, 2), (5, 2), (2, 3)]

FRAME = ((1, 0, 0), (0, 1, 0), (1, 1, 1))


def all_pairs(p, n):
    ground = Ground(p, n)
    nests = [Nest(ground, codes) for codes in brute.all_nests(p, n)]
    return list(itertools.product(nests, repeat=2))


def some_pairs(p, n, many, seed):
    nests = some_nests(p, n, 2 * many, seed)
    return list(zip(nests[::2], nests[1::2]))


def spoiled(ground, rows):
    """Tuples and other values made of the rows, of which most are no frame."""
    p, n = ground.p(), ground.n()
    for a in range(n):
        yield rows[:a] + rows[a + 1:]
        yield rows[:a] + rows[a:a + 1] + rows[a:]
        yield rows[:a] + (ground.zero(),) + rows[a + 1:]
        for factor in range(2, p):
            yield rows[:a] + (brute.times(p, factor, rows[a]),) + rows[a + 1:]
        for b in range(n):
            if a != b:
                yield rows[:a] + (brute.plus(p, rows[a], rows[b]),) + rows[a + 1:]
                yield rows[:a] + (rows[b],) + rows[a + 1:]
                changed = list(rows)
                changed[a], changed[b] = rows[b], rows[a]
                yield tuple(changed)


class Frames(unittest.TestCase):
    def check(self, f, g):
        p, n = f.ground().p(), f.ground().n()
        rows = frame_of(f, g)
        self.assertIs(type(rows), tuple)
        self.assertTrue(all(type(row) is tuple and len(row) == n for row in rows))
        self.assertTrue(brute.is_frame(p, n, f.codes(), g.codes(), rows))
        self.assertIs(is_frame(f, g, rows), True)
        self.assertIs(judge_frame(f, g, (order_of(f, g), rows)), True)

    def test_the_examples(self):
        self.assertIs(is_frame(F, G, FRAME), True)
        self.assertIs(judge_frame(F, G, ((2, 1, 0), FRAME)), True)
        units = Ground(2, 3).units()
        self.assertIs(is_frame(F, H, units), True)
        self.assertIs(judge_frame(F, H, ((1, 2, 0), units)), True)
        self.assertIs(is_frame(H, F, (units[2], units[0], units[1])), True)
        self.assertIs(judge_frame(H, F, ((2, 0, 1), (units[2], units[0], units[1]))), True)
        self.assertIs(is_frame(H, F, units), False)

    def test_there_is_a_frame(self):
        for p, n in SIZES:
            for f, g in all_pairs(p, n):
                self.check(f, g)
        for p, n, many in [(3, 3, 40), (2, 4, 40), (5, 3, 10), (2, 5, 15)]:
            for f, g in some_pairs(p, n, many, p * n):
                self.check(f, g)

    def test_great_grounds(self):
        for p, n in [(13, 6), (2, 8), (13, 8)]:
            ground = Ground(p, n)
            for f, g in some_pairs(p, n, 6, p) + [(standard(ground), opposite(ground))]:
                rows, w = frame_of(f, g), order_of(f, g)
                self.assertIs(is_frame(f, g, rows), True)
                self.assertEqual([brute.echelon(p, rows[:i]) for i in range(1, n)], f.codes())
                self.assertEqual([brute.echelon(p, [rows[a] for a in range(n) if w[a] < j]) for j in range(1, n)],
                                 g.codes())

    def test_all_tuples_of_rows(self):
        for p, n in [(2, 0), (2, 1), (5, 1), (2, 2), (3, 2)]:
            for f, g in all_pairs(p, n):
                many = 0
                for rows in itertools.product(brute.rows_of_length(p, n), repeat=n):
                    right = brute.is_frame(p, n, f.codes(), g.codes(), rows)
                    self.assertIs(is_frame(f, g, rows), right, (f.codes(), g.codes(), rows))
                    many += right
                self.assertEqual(count_frames(f, g), many)
        for f, g in [(F, F), (F, G), (F, H), (H, F), (G, H)]:
            found = [rows for rows in itertools.product(brute.rows_of_length(2, 3), repeat=3)
                     if is_frame(f, g, rows)]
            self.assertTrue(all(brute.is_frame(2, 3, f.codes(), g.codes(), rows) for rows in found))
            self.assertEqual(len(found), count_frames(f, g))

    def test_rows_multiplied_added_exchanged_and_left_out(self):
        for p, n, many in [(2, 3, 12), (3, 3, 12), (5, 3, 4), (2, 4, 6)]:
            for f, g in some_pairs(p, n, many, p + n):
                w = order_of(f, g)
                for rows in spoiled(f.ground(), frame_of(f, g)):
                    right = len(rows) == n and brute.is_frame(p, n, f.codes(), g.codes(), rows)
                    self.assertIs(is_frame(f, g, rows), right)
                    self.assertIs(judge_frame(f, g, (w, rows)), right)

    def test_what_may_be_added(self):
        for p, n in [(3, 3), (5, 4), (2, 5)]:
            for f, g in some_pairs(p, n, 8, 7 * p):
                rows, w = frame_of(f, g), order_of(f, g)
                for a, b in itertools.permutations(range(n), 2):
                    new = rows[:b] + (brute.plus(p, rows[b], rows[a]),) + rows[b + 1:]
                    self.assertIs(is_frame(f, g, new), a < b and w[a] < w[b])

    def test_the_frame_the_other_way_round(self):
        for p, n in [(2, 3), (3, 4), (13, 6)]:
            for f, g in some_pairs(p, n, 8, n):
                rows, w = frame_of(f, g), order_of(f, g)
                turned = [None] * n
                for i in range(n):
                    turned[w[i]] = rows[i]
                self.assertIs(is_frame(g, f, tuple(turned)), True)

    def test_no_columns_and_one_column(self):
        for p in [2, 5]:
            none, one = standard(Ground(p, 0)), standard(Ground(p, 1))
            self.assertEqual(frame_of(none, none), ())
            self.assertIs(is_frame(none, none, ()), True)
            self.assertIs(judge_frame(none, none, ((), ())), True)
            self.assertEqual(count_frames(none, none), 1)
            self.assertEqual(count_frames(one, one), p - 1)
            for value in [((),), [], (0,), None, ((1,),)]:
                self.assertIs(is_frame(none, none, value), False, repr(value))
            self.assertEqual([number for number in range(p) if is_frame(one, one, ((number,),))], list(range(1, p)))
            for value in [(), (1,), ([1],), [(1,)], ((1,), (1,)), ((True,),), ((p,),), ((-1,),), ((1, 0),), ((),)]:
                self.assertIs(is_frame(one, one, value), False, repr(value))


class ValuesOfAllKinds(unittest.TestCase):
    def wrong_rows(self):
        wrong = no_integers() + NEGATIVE + [0, 1, GREAT, F, deep(FRAME), list(FRAME), {0: 1}, FRAME[:2], FRAME + FRAME]
        for k in range(3):
            for row in no_integers() + NEGATIVE + [0, list(FRAME[k]), FRAME[k] + (0,), FRAME[k][:2], (1, 0, 2),
                                                   tuple(bool(entry) for entry in FRAME[k]), (0, 0, 0), (1, 0, -1)]:
                wrong.append(FRAME[:k] + (row,) + FRAME[k + 1:])
        return wrong

    def test_frames(self):
        for value in self.wrong_rows():
            self.assertIs(is_frame(F, G, value), False, repr(value))

    def test_papers(self):
        w = (2, 1, 0)
        for value in self.wrong_rows():
            self.assertIs(judge_frame(F, G, value), False, repr(value))
            self.assertIs(judge_frame(F, G, (w, value)), False, repr(value))
            self.assertIs(judge_frame(F, G, (value, FRAME)), False, repr(value))
        for value in [[w, FRAME], (w,), (w, FRAME, w), (FRAME, w), (), (list(w), FRAME), (w, list(FRAME)),
                      ((2, True, 0), FRAME), ((2, 1, False), FRAME), ((2, 1), FRAME), ((2, 1, 0, 3), FRAME),
                      ((2, 1, 1), FRAME), ((2, 1, -3), FRAME), {0: w, 1: FRAME}]:
            self.assertIs(judge_frame(F, G, value), False, repr(value))
        self.assertIs(judge_frame(F, G, (w, FRAME)), True)

    def test_papers_with_each_order(self):
        for p, n, many in [(2, 3, 15), (3, 3, 10), (2, 4, 5)]:
            for f, g in some_pairs(p, n, many, 11 * p):
                for w in itertools.permutations(range(n)):
                    self.assertIs(judge_frame(f, g, (w, frame_of(f, g))), w == order_of(f, g))

    def test_papers_of_other_nests(self):
        for f, g in all_pairs(2, 3)[::3]:
            self.assertIs(judge_frame(f, g, ((2, 1, 0), FRAME)), (f, g) == (F, G))


class HowMany(unittest.TestCase):
    def test_formula(self):
        for p, n in [(2, 3), (3, 4), (13, 6), (2, 8)]:
            ground = Ground(p, n)
            nests = some_nests(p, n, 5, p) + [standard(ground), opposite(ground)]
            for f, g in itertools.product(nests, repeat=2):
                pairs = n * (n - 1) // 2 - brute.count_inversions(order_of(f, g))
                self.assertEqual(count_frames(f, g), (p - 1) ** n * p ** pairs)
            self.assertEqual(count_frames(nests[0], nests[0]), (p - 1) ** n * p ** (n * (n - 1) // 2))
            self.assertEqual(count_frames(nests[-1], nests[-2]), (p - 1) ** n)


class NestsOf(unittest.TestCase):
    def test_all_small_bases(self):
        for p, n in [(2, 0), (3, 0), (2, 1), (3, 1), (2, 2), (3, 2)]:
            ground = Ground(p, n)
            for rows in itertools.product(brute.rows_of_length(p, n), repeat=n):
                for w in itertools.permutations(range(n)):
                    found = nests_of(ground, rows, w)
                    if len(brute.span(p, n, rows)) < p ** n:
                        self.assertIsNone(found)
                    else:
                        self.check(ground, rows, w, found)

    def check(self, ground, rows, w, found):
        p, n = ground.p(), ground.n()
        self.assertIs(type(found), tuple)
        f, g = found
        self.assertEqual(f, Nest(ground, [brute.echelon(p, rows[:i]) for i in range(1, n)]))
        self.assertEqual(g, Nest(ground, [brute.echelon(p, [rows[a] for a in range(n) if w[a] < j])
                                          for j in range(1, n)]))
        self.assertEqual(order_of(f, g), w)
        self.assertIs(is_frame(f, g, rows), True)

    def test_some_bases(self):
        chance = random.Random(65)
        for p, n in [(2, 3), (3, 4), (7, 5), (13, 6), (2, 8)]:
            for f, g in some_pairs(p, n, 6, p):
                self.assertEqual(nests_of(f.ground(), frame_of(f, g), order_of(f, g)), (f, g))
                w = tuple(chance.sample(range(n), n))
                self.check(f.ground(), frame_of(f, g), w, nests_of(f.ground(), frame_of(f, g), w))

    def test_none(self):
        ground = Ground(2, 3)
        self.assertEqual(nests_of(ground, FRAME, (2, 1, 0)), (F, G))
        for value in no_integers() + NEGATIVE + [0, 3, GREAT, F, list(FRAME), FRAME[:2], FRAME + FRAME[:1],
                                                 FRAME[:2] + ([1, 1, 1],), FRAME[:2] + ((1, 1, True),),
                                                 FRAME[:2] + ((1, 1, 0),), FRAME[:2] + ((0, 0, 0),),
                                                 FRAME[:2] + ((1, 1, 2),), FRAME[:2] + ((1, 1),), (2, 1, 0)]:
            self.assertIsNone(nests_of(ground, value, (2, 1, 0)), repr(value))
            self.assertIsNone(nests_of(ground, value, [2, 1, 0]), repr(value))
        for value in no_integers() + NEGATIVE + [0, 3, GREAT, F, [2, 1, 0], (2, 1), (2, 1, 0, 3), (2, 1, 1),
                                                 (2, True, 0), (2, 1, False), (3, 1, 0), (-1, 1, 0), FRAME]:
            self.assertIsNone(nests_of(ground, FRAME, value), repr(value))

    def test_no_columns(self):
        ground = Ground(3, 0)
        self.assertEqual(nests_of(ground, (), ()), (standard(ground), standard(ground)))
        for rows, order in [([], ()), ((), []), (((),), ()), ((), (0,)), (None, ()), ((), None)]:
            self.assertIsNone(nests_of(ground, rows, order))


class Unlike(unittest.TestCase):
    def test_unlike_grounds_come_first(self):
        nests = [standard(Ground(p, n)) for p, n in [(2, 0), (3, 0), (2, 1), (2, 3), (3, 3), (2, 4)]]
        for f, g in itertools.permutations(nests, 2):
            for function in [frame_of, count_frames]:
                with self.assertRaises(UnlikeGrounds):
                    function(f, g)
            for function in [is_frame, judge_frame]:
                for value in [None, (), FRAME, ((2, 1, 0), FRAME), [1], 7]:
                    with self.assertRaises(UnlikeGrounds):
                        function(f, g, value)
