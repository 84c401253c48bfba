import itertools
import random
import unittest

from codenests.errors import UnlikeGrounds
from codenests.frames import frame_of
from codenests.grounds import Ground
from codenests.nests import Nest, standard
from codenests.sharing import fresh, judge_share, share
from tests import brute
from tests.anything import GREAT, NEGATIVE, deep, no_integers
from tests.test_differences import F, G, H, opposite, some_nests

# The example of S9.9.
LINES = [Nest(Ground(2, 2), [(row,)]) for row in [(1, 0), (0, 1), (1, 1)]]


def nests_of_ground(p, n):
    return [Nest(Ground(p, n), codes) for codes in brute.all_nests(p, n)]


def joined_rows(p, n, sets):
    """The joined code of some codes, as the set of its rows."""
    return brute.span(p, n, [row for rows in sets for row in sorted(rows)])


class ByRows:
    """The codes T(q) of some nests and those below them, as sets of rows."""

    def __init__(self, nests):
        self.p, self.n = nests[0].ground().p(), nests[0].ground().n()
        self.places = list(itertools.product(range(self.n + 1), repeat=len(nests)))
        chains = [brute.chain_of(self.p, self.n, nest.codes()) for nest in nests]
        self.shared = {q: frozenset.intersection(*[chain[i] for chain, i in zip(chains, q)]) for q in self.places}
        self.below = {q: joined_rows(self.p, self.n, [self.shared[lower] for lower in self.lower(q)])
                      for q in self.places}

    def lower(self, q):
        return [q[:k] + (i - 1,) + q[k + 1:] for k, i in enumerate(q) if i > 0]

    def fresh(self, q):
        return brute.rank_of_span(self.p, self.shared[q]) - brute.rank_of_span(self.p, self.below[q])

    def are_fresh(self, pairs):
        """Whether pairs of places and rows are as S9.9 tells, however many they are."""
        for q in {q for q, _ in pairs}:
            rows = [row for places, row in pairs if places == q]
            if not set(rows) <= self.shared[q]:
                return False
            for numbers in itertools.product(range(self.p), repeat=len(rows)):
                if any(numbers) and brute.combination(self.p, self.n, numbers, rows) in self.below[q]:
                    return False
        return True


def is_frame_of_all(nests, rows):
    """Whether rows are a base, and each code of each nest is spanned by some of them."""
    p, n = nests[0].ground().p(), nests[0].ground().n()
    if len(rows) != n or len(brute.span(p, n, rows)) != p ** n:
        return False
    spans = {brute.base_of_span(brute.span(p, n, some)) for many in range(n)
             for some in itertools.combinations(rows, many)}
    return all(code in spans for nest in nests for code in nest.codes())


def some_lists(p, n, longest, many, seed):
    """Lists of nests, of which some share a frame."""
    chance = random.Random(seed)
    nests = some_nests(p, n, 12, seed)
    lists = [[chance.choice(nests) for _ in range(chance.randrange(1, longest + 1))] for _ in range(many)]
    for _ in range(many):
        rows = frame_of(*chance.sample(nests, 2))
        along = []
        for _ in range(chance.randrange(1, longest + 1)):
            order = chance.sample(range(n), n)
            along.append(Nest(Ground(p, n), [brute.echelon(p, [rows[a] for a in order[:i]]) for i in range(1, n)]))
        lists.append(along)
    return lists


def lists_of_all_kinds():
    for p, n, longest in [(2, 0, 4), (5, 0, 2), (3, 1, 4), (2, 2, 4), (3, 2, 3)]:
        for many in range(1, longest + 1):
            found = list(itertools.product(nests_of_ground(p, n), repeat=many))
            yield from [list(nests) for nests in found[::len(found) // 30 + 1]]
    yield from [list(nests) for nests in itertools.product(nests_of_ground(2, 3), repeat=3)][::211]
    for p, n, longest, many in [(2, 3, 4, 20), (3, 3, 4, 10), (2, 4, 4, 5)]:
        yield from some_lists(p, n, longest, many, 10 * p + n)


class Fresh(unittest.TestCase):
    def test_the_example(self):
        for q in itertools.product(range(3), repeat=3):
            self.assertEqual(fresh(LINES, q), int(sorted(q) == [1, 2, 2]), q)

    def test_all_places(self):
        for nests in lists_of_all_kinds():
            rows = ByRows(nests)
            for q in rows.places:
                self.assertEqual(fresh(nests, q), rows.fresh(q), q)
                self.assertEqual(fresh(tuple(nests), q), rows.fresh(q), q)

    def test_noughts(self):
        for p, n, many in [(2, 0, 1), (2, 0, 4), (3, 1, 2), (2, 3, 3), (13, 4, 4)]:
            nests = some_nests(p, n, many, 5)
            self.assertEqual(fresh(nests, (0,) * many), 0)
            for k in range(many):
                self.assertEqual(fresh(nests, (n,) * k + (0,) + (n,) * (many - k - 1)), 0)

    def test_one_nest_and_the_same_nest_twice(self):
        for p, n in [(2, 3), (13, 4)]:
            nest = some_nests(p, n, 1, 6)[0]
            self.assertEqual([fresh([nest], (i,)) for i in range(n + 1)], [0] + [1] * n)
            for q in itertools.product(range(n + 1), repeat=2):
                self.assertEqual(fresh([nest, nest], q), int(q[0] == q[1] > 0))

    def test_two_nests(self):
        self.assertEqual([q for q in itertools.product(range(4), repeat=2) if fresh([F, H], q)],
                         [(1, 2), (2, 3), (3, 1)])


class Share(unittest.TestCase):
    def test_papers(self):
        kinds = []
        for nests in lists_of_all_kinds():
            rows, n = ByRows(nests), nests[0].ground().n()
            total = sum(rows.fresh(q) for q in rows.places)
            for passed in [nests, tuple(nests)]:
                paper = share(passed)
                self.assertIs(type(paper), tuple)
                kind, told = paper
                self.assertIs(type(told), tuple)
                self.assertEqual(kind, "frame" if total == n else "fresh")
                if kind == "frame":
                    self.assertTrue(is_frame_of_all(nests, told))
                else:
                    self.assertEqual(len(told), n + 1)
                    self.assertTrue(rows.are_fresh(told))
                self.assertIs(judge_share(passed, paper), True)
            kinds.append((kind, len(nests)))
        self.assertEqual(set(kinds), {("frame", 1), ("frame", 2), ("frame", 3), ("frame", 4),
                                      ("fresh", 3), ("fresh", 4)})

    def test_all_bases_of_small_grounds(self):
        for p, n, longest in [(2, 2, 4), (3, 2, 4), (2, 3, 3)]:
            bases = [rows for rows in itertools.combinations(brute.rows_of_length(p, n), n)
                     if len(brute.span(p, n, rows)) == p ** n]
            spanned = [{brute.base_of_span(brute.span(p, n, some)) for many in range(n)
                        for some in itertools.combinations(rows, many)} for rows in bases]
            for nests in itertools.islice(itertools.product(nests_of_ground(p, n), repeat=longest), 0, None, 17):
                codes = {code for nest in nests for code in nest.codes()}
                self.assertEqual(share(nests)[0] == "frame", any(codes <= one for one in spanned))

    def test_great_grounds(self):
        for nests in some_lists(13, 4, 4, 2, 7) + some_lists(2, 4, 4, 4, 8):
            self.assertIs(judge_share(nests, share(nests)), True)
        self.assertEqual([share(nests)[0] for nests in some_lists(13, 4, 4, 2, 7)[2:]], ["frame"] * 2)

    def test_small_grounds(self):
        for p in [2, 13]:
            for many in range(1, 5):
                none, one = [standard(Ground(p, 0))] * many, [standard(Ground(p, 1))] * many
                self.assertEqual(share(none), ("frame", ()))
                kind, rows = share(one)
                self.assertEqual((kind, len(rows)), ("frame", 1))
                self.assertIs(judge_share(one, ("frame", ((p - 1,),))), True)
                self.assertIs(judge_share(one, ("frame", ((0,),))), False)
                for value in [("fresh", ()), ("fresh", (((0,) * many, ()),)), ("frame", ((),)), ("frame", []), ()]:
                    self.assertIs(judge_share(none, value), False)
                for value in [("fresh", (((1,) * many, (1,)), ((1,) * many, (1,)))), ("frame", ()),
                              ("fresh", (((1,) * many, (1,)), ((0,) * many, (0,))))]:
                    self.assertIs(judge_share(one, value), False)


class Judge(unittest.TestCase):
    def test_all_tuples_of_rows(self):
        for nests in [[F, G], [F, H, G], [F, opposite(Ground(2, 3)), H], LINES, LINES[:2], LINES[1:2], [G]]:
            p, n = 2, nests[0].ground().n()
            for many in range(n + 2):
                for rows in itertools.product(brute.rows_of_length(p, n), repeat=many):
                    wanted = is_frame_of_all(nests, rows)
                    self.assertIs(judge_share(nests, ("frame", rows)), wanted, rows)

    def test_all_pairs_of_the_example(self):
        rows = ByRows(LINES)
        pairs = [(q, row) for q in rows.places if min(q) > 0 or sum(q) == 3 for row in brute.rows_of_length(2, 2)]
        right = 0
        for chosen in itertools.product(pairs, repeat=3):
            if all(row in rows.shared[q] for q, row in chosen):
                wanted = rows.are_fresh(chosen)
                self.assertIs(judge_share(LINES, ("fresh", chosen)), wanted, chosen)
                right += wanted
        self.assertEqual(right, 6)

    def test_some_pairs(self):
        chance = random.Random(9)
        answers = {True: 0, False: 0}
        for nests in some_lists(2, 3, 4, 25, 10) + some_lists(3, 3, 4, 25, 11):
            kind, told = share(nests)
            rows, n = ByRows(nests), 3
            for _ in range(20 if kind == "fresh" else 0):
                pairs = list(told)
                chance.shuffle(pairs)
                for _ in range(chance.randrange(3)):
                    k = chance.randrange(n + 1)
                    q, row = pairs[k]
                    kind = chance.randrange(3)
                    if kind == 0:
                        row = chance.choice(sorted(rows.shared[q]))
                    elif kind == 1:
                        q = chance.choice(rows.places)
                    else:
                        q, row = chance.choice(pairs)
                    pairs[k] = (q, row)
                wanted = rows.are_fresh(pairs)
                self.assertIs(judge_share(nests, ("fresh", tuple(pairs))), wanted)
                answers[wanted] += 1
        self.assertGreater(min(answers.values()), 30)

    def test_one_tuple_of_places_twice(self):
        ground = Ground(2, 3)
        high = ((1, 0, 0), (0, 1, 0))
        nests = [Nest(ground, [(row,), high]) for row in [(1, 0, 0), (0, 1, 0), (1, 1, 0)]]
        pairs = share(nests)[1]
        self.assertIs(judge_share(nests, ("fresh", pairs)), True)
        q, row = pairs[0]
        for k in range(1, 4):
            self.assertIs(judge_share(nests, ("fresh", pairs[:k] + ((q, row),) + pairs[k + 1:])), False)
        for more in (pairs + pairs[:1], pairs[:-1], pairs[1:]):
            self.assertIs(judge_share(nests, ("fresh", more)), False)
        self.assertIs(judge_share(nests, ("fresh", pairs[::-1])), True)

    def test_never_one_of_each_kind(self):
        for nests in some_lists(2, 3, 3, 20, 12):
            rows = ByRows(nests)
            fresh_pairs = [(q, row) for q in rows.places for row in sorted(rows.shared[q] - rows.below[q])[:1]]
            value = ("fresh", tuple(fresh_pairs[:4]))
            if share(nests)[0] == "frame":
                self.assertIs(judge_share(nests, value), False)
            else:
                for order in itertools.permutations(range(3)):
                    self.assertIs(judge_share(nests, ("frame", tuple(Ground(2, 3).units()[k] for k in order))), False)

    def spoiled(self, paper):
        kind, told = paper
        wrong = no_integers() + NEGATIVE + [0, 1, GREAT, F, deep(told), "frames", {kind: told}]
        for value in wrong + [list(paper), paper + (told,), (kind,), (told, kind), (kind, list(told)), [kind, told]]:
            yield value
        for value in wrong + ["Frame", "fresh ", "" if kind == "frame" else "frame"]:
            yield (value, told)
        for value in wrong:
            yield (kind, value)
            for k, member in enumerate(told):
                yield (kind, told[:k] + (value,) + told[k + 1:])
                for j, inner in enumerate(member):
                    if value not in (0, 1):
                        spoiled = member[:j] + (value,) + member[j + 1:]
                        yield (kind, told[:k] + (spoiled,) + told[k + 1:])
                    if kind == "fresh":
                        for i in range(len(inner)):
                            if value not in (0, 1):
                                deeper = member[:j] + (inner[:i] + (value,) + inner[i + 1:],) + member[j + 1:]
                                yield (kind, told[:k] + (deeper,) + told[k + 1:])
        for k, member in enumerate(told):
            yield (kind, told[:k] + (list(member),) + told[k + 1:])
            yield (kind, told[:k] + told[k + 1:])
            yield (kind, told + (member,))
            if kind == "fresh":
                q, row = member
                for other in [(list(q), row), (q, list(row)), (q, row, row), (q,), (q + (1,), row), (q[:-1], row),
                              (q, row[:-1]), (q, row + (0,)), (row, q), ((3,) * len(q), row), (q, (0,) * len(row))]:
                    yield (kind, told[:k] + (other,) + told[k + 1:])

    def test_values_of_all_kinds(self):
        for nests in [LINES, LINES[:2], [F, G]]:
            paper = share(nests)
            for value in self.spoiled(paper):
                self.assertIs(judge_share(nests, value), False, value)

    def test_true_is_no_number(self):
        paper = share(LINES)
        for k, (q, row) in enumerate(paper[1]):
            for other in [(tuple(True if i == 1 else i for i in q), row),
                          (q, tuple(True if entry == 1 else entry for entry in row)),
                          (q, tuple(False if entry == 0 else entry for entry in row))]:
                value = ("fresh", paper[1][:k] + (other,) + paper[1][k + 1:])
                self.assertIs(judge_share(LINES, value), other == (q, row) and repr(other) == repr((q, row)))
        self.assertIs(judge_share(LINES[:1], ("frame", ((1, 0), (0, True)))), False)
        self.assertIs(judge_share(LINES[:1], ("frame", ((1, 0), (0, 1)))), True)

    def test_a_shared_frame_in_any_sequence(self):
        kind, rows = share([F, H])
        for order in itertools.permutations(rows):
            self.assertIs(judge_share([F, H], (kind, order)), True)


class Unlike(unittest.TestCase):
    def test_unlike_grounds_come_first(self):
        nests = [standard(Ground(p, n)) for p, n in [(2, 0), (3, 0), (2, 1), (2, 3), (3, 3), (2, 4)]]
        for one, other in itertools.permutations(nests, 2):
            for passed in [[one, other], (one, other), [one, one, other], [one, other, one, one]]:
                with self.assertRaises(UnlikeGrounds):
                    fresh(passed, (0,) * len(passed))
                with self.assertRaises(UnlikeGrounds):
                    share(passed)
                for value in [None, ("frame", ()), ("frame", one.ground().units()), 7, []]:
                    with self.assertRaises(UnlikeGrounds):
                        judge_share(passed, value)
