"""Points 16.1 to 16.6, 0.16 and 0.17."""

import random
import unittest
from collections import Counter
from fractions import Fraction
from functools import cache
from itertools import combinations

from tests.samples import CUBE, PAIRS, SEVEN, integer_counts
from tests.support import as_own, as_python, error_of, run_examples
from tests.test_counting import drawn_lots, has_integers
from thirdcounts.eigen.spaces import first_table, multiplicities, second_table
from thirdcounts.errors import InvalidCounts, InvalidKinds, InvalidOperation, Refused
from thirdcounts.lots.bounds import (
    bound, bound_paper, bound_row, is_bound_paper, is_bound_row, is_partner_row, is_passing, loose_bound, lots_bound, paper_of_row, paper_worth,
    partner, partner_row, row_of_paper
)
from thirdcounts.lots.counting import inner_counts
from thirdcounts.lots.meeting import greatest_size
from thirdcounts.lots.simplex import greatest
from thirdcounts.pairs.counts import counts_of, points_of
from thirdcounts.pairs.schemes import Scheme

EXAMPLES = """
>>> from thirdcounts.pairs.counts import counts_of
>>> FEW, WORDS = counts_of(PAIRS), counts_of(Scheme.by_places(4, 2))
>>> [bound(FEW, (1,)), partner(FEW, (1,)), bound(FEW, (2,)), lots_bound(FEW, (2,)), bound(WORDS, (1, 2)), partner(WORDS, (1, 2)), loose_bound(WORDS, (3, 4))]
[(4, 1), (5, 2), (5, 2), 2, (6, 1), (8, 3), (8, 3)]
>>> [bound_row(FEW, (1,)), bound_paper(FEW, (1,)), paper_worth(FEW, ((1, 1), (0, 1), (3, 5))), is_bound_paper(FEW, (1,), ((1, 1), (0, 1), (2, 1)))]
[((1, 1), (3, 1), (0, 1)), ((1, 1), (0, 1), (3, 5)), (4, 1), True]
>>> [row_of_paper(FEW, ((1, 1), (0, 1), (3, 5))), paper_of_row(FEW, ((1, 1), (0, 1), (3, 2)))]
[((1, 1), (0, 1), (3, 2)), ((1, 1), (0, 1), (3, 5))]
>>> bound(counts_of(Scheme.by_ring(5)), (1,))
raises Refused(('eigenvalues',))
"""

FEW = counts_of(PAIRS)
RING = counts_of(Scheme.by_ring(5))
ONLY = (((1,),),)
HIGH = 10 ** 70 + 1
CALLS = [bound, partner, loose_bound, bound_row, bound_paper, partner_row, lots_bound]
JUDGES = [is_bound_row, is_passing, is_bound_paper, is_partner_row]


def kinds_sets(counts):
    d = len(counts) - 1
    return [some for many in range(d + 1) for some in combinations(range(1, d + 1), many)]


def rest_of(counts, kinds):
    return tuple([kind for kind in range(1, len(counts)) if kind not in kinds])


@cache
def tables(counts):
    second = [[as_python(entry) for entry in row] for row in second_table(counts)]
    return first_table(counts), second, [as_python(entry) for entry in multiplicities(counts)]


def duals(counts, row):
    second = tables(counts)[1]
    return [sum(row[i] * second[i][r] for i in range(len(row))) for r in range(len(row))]


def solved(rows, right):
    """The one solution of equations, `None` if there is none or more than one."""
    left = [list(map(Fraction, row)) + [Fraction(entry)] for row, entry in zip(rows, right)]
    size = len(left)
    for at in range(size):
        lead = next((index for index in range(at, size) if left[index][at] != 0), None)
        if lead is None:
            return None
        left[at], left[lead] = left[lead], left[at]
        left[at] = [entry / left[at][at] for entry in left[at]]
        for index in range(size):
            if index != at:
                factor = left[index][at]
                left[index] = [entry - factor * low for entry, low in zip(left[index], left[at])]
    return [row[-1] for row in left]


def greatest_sum(counts, kinds, signs):
    """The greatest sum of a row with entries at the kinds, of one sign (1), or of any sign (0), by all corners."""
    if not kinds:
        return Fraction(1)
    second, d = tables(counts)[1], len(counts) - 1
    limits = [([second[i][r] for i in kinds], -second[0][r]) for r in range(1, d + 1)]
    if signs:
        limits += [([int(i == kind) for i in kinds], 0) for kind in kinds]
    best = None
    for some in combinations(limits, len(kinds)):
        corner = solved([row for row, _ in some], [right for _, right in some])
        if corner and all(sum(a * x for a, x in zip(row, corner)) >= right for row, right in limits):
            best = max(best or 0, 1 + sum(corner))
    return best


def each_set(many):
    draw = random.Random(16)
    for counts in integer_counts():
        told = kinds_sets(counts)
        for kinds in told if len(told) <= many else draw.sample(told, many):
            yield counts, kinds


class Examples(unittest.TestCase):

    def test_examples(self):
        self.assertEqual(run_examples(self, EXAMPLES, dict(globals())), 4)


class Bounds(unittest.TestCase):

    def test_papers_and_rows(self):
        for counts, kinds in each_set(8):
            told, n = as_python(bound(counts, kinds)), points_of(counts)
            row, paper = bound_row(counts, kinds), bound_paper(counts, kinds)
            # A row that passes and a paper with one sum show that both are the best.
            self.check_passing(counts, kinds, row)
            self.check_paper(counts, kinds, paper)
            self.assertEqual((sum(map(as_python, row)), as_python(paper_worth(counts, paper))), (told, told))
            self.assertTrue(is_bound_row(counts, kinds, row) and is_bound_paper(counts, kinds, paper) and is_passing(counts, kinds, row))
            self.assertTrue(1 <= told <= n)
            self.assertEqual(lots_bound(counts, kinds), told.numerator // told.denominator)
            if not kinds:
                self.assertEqual((told, row), (1, ((1, 1),) + ((0, 1),) * (len(counts) - 1)))
            if len(kinds) == len(counts) - 1:
                self.assertEqual(told, n)

    def check_passing(self, counts, kinds, row):
        a = [as_python(entry) for entry in row]
        self.assertEqual(a[0], 1)
        self.assertTrue(all(entry >= 0 and (i in kinds or entry == 0) for i, entry in enumerate(a) if i > 0))
        self.assertTrue(all(entry >= 0 for entry in duals(counts, a)))

    def check_paper(self, counts, kinds, paper):
        y, second = [as_python(entry) for entry in paper], tables(counts)[1]
        self.assertTrue(y[0] == 1 and all(entry >= 0 for entry in y))
        f = [sum(y[r] * second[i][r] for r in range(len(y))) for i in range(len(y))]
        self.assertTrue(all(f[i] <= 0 for i in kinds))
        self.assertEqual(as_own(f[0]), paper_worth(counts, paper))

    def test_by_all_corners(self):
        for counts, kinds in each_set(8):
            if len(counts) <= 5:
                self.assertEqual(as_python(bound(counts, kinds)), greatest_sum(counts, kinds, 1))
                self.assertEqual(as_python(loose_bound(counts, kinds)), greatest_sum(counts, kinds, 0))

    def test_partners(self):
        for counts, kinds in each_set(6):
            n, rest = points_of(counts), rest_of(counts, kinds)
            row, told = partner_row(counts, kinds), partner(counts, kinds)
            a = [as_python(entry) for entry in row]
            self.assertTrue(a[0] == 1 and all(a[i] <= 0 for i in kinds) and all(entry >= 0 for entry in duals(counts, a)))
            self.assertEqual(as_own(sum(a)), told)
            self.assertIs(is_partner_row(counts, kinds, row), True)
            self.assertEqual(as_python(told) * as_python(bound(counts, kinds)), n)
            loose, other = loose_bound(counts, kinds), loose_bound(counts, rest)
            self.assertEqual(as_python(loose) * as_python(other), n)
            self.assertGreaterEqual(as_python(loose), as_python(bound(counts, kinds)))
            # A partner row has any sign at the kinds of the rest, a row that passes for them has not.
            self.assertGreaterEqual(as_python(told), as_python(bound(counts, rest)))

    def test_papers_make_rows(self):
        draw = random.Random(61)
        for counts, kinds in each_set(4):
            paper, row = bound_paper(counts, kinds), partner_row(counts, kinds)
            self.assertEqual((paper_of_row(counts, row_of_paper(counts, paper)), row_of_paper(counts, paper_of_row(counts, row))), (paper, row))
            y = ((1, 1),) + tuple([as_own(Fraction(draw.randint(0, 5), draw.randint(1, 4))) for _ in counts[1:]])
            first, second, many = tables(counts)
            f = [sum(as_python(y[r]) * second[i][r] for r in range(len(y))) for i in range(len(y))]
            self.assertEqual(paper_worth(counts, y), as_own(f[0]))
            made = row_of_paper(counts, y)
            self.assertEqual(made, tuple([as_own(first[0][i] * f[i] / f[0]) for i in range(len(y))]))
            self.assertEqual(sum(map(as_python, made)), points_of(counts) / f[0])
            self.assertEqual(paper_of_row(counts, made), y)
            b = duals(counts, [as_python(entry) for entry in made])
            self.assertEqual(y, tuple([as_own(b[r] / many[r] / b[0]) for r in range(len(y))]))
            self.assertIs(is_bound_paper(counts, kinds, y), all(f[i] <= 0 for i in kinds))
            self.assertIs(is_partner_row(counts, kinds, made), all(f[i] <= 0 for i in kinds))

    def test_no_row_is_above_a_paper(self):
        draw = random.Random(62)
        for counts, kinds in each_set(5):
            best, worth = bound_row(counts, kinds), as_python(bound(counts, kinds))
            # What is between the best row and that of one point passes, too.
            part = Fraction(draw.randint(0, 9), 10)
            row = tuple([as_own(1 if i == 0 else as_python(entry) * part) for i, entry in enumerate(best)])
            self.check_passing(counts, kinds, row)
            self.assertIs(is_passing(counts, kinds, row), True)
            self.assertIs(is_bound_row(counts, kinds, row), sum(map(as_python, row)) == worth)
            # A paper for more kinds is one for fewer.
            fewer = kinds[:-1]
            paper = bound_paper(counts, kinds)
            self.assertIs(is_bound_paper(counts, fewer, paper), True)
            self.assertGreaterEqual(worth, as_python(bound(counts, fewer)))

    def test_lots(self):
        """The inner counts of each lot pass for the kinds to which it keeps."""
        found = Counter()
        for scheme, lot in drawn_lots():
            if has_integers(scheme):
                counts, inner = counts_of(scheme), inner_counts(scheme, lot)
                kinds = tuple([i for i in range(1, len(inner)) if inner[i] != (0, 1)])
                self.assertIs(is_passing(counts, kinds, inner), True)
                self.assertLessEqual(len(lot), lots_bound(counts, kinds))
                found[len(lot) == lots_bound(counts, kinds)] += 1
        self.assertGreater(min(found.values()), 20)


class Judges(unittest.TestCase):

    def test_rows(self):
        one, zero = (1, 1), (0, 1)
        for value, passing, best in [
            ((one, (3, 1), zero), True, True), ((one, zero, zero), True, False), ((one, (3, 1), (1, 1)), False, False), ((one, (-1, 9), zero), False, False),
            ((one, (4, 1), zero), False, False), ((one, (30001, 10000), zero), False, False), ((one, (29999, 10000), zero), True, False),
            ((one, (3 * HIGH - 1, HIGH), zero), True, False), ((one, (3 * HIGH + 1, HIGH), zero), False, False), ((zero, (3, 1), zero), False, False),
            (((2, 1), (3, 1), zero), False, False), ((one, (3, 1)), False, False), ((one, 3, zero), False, False), ((1, (3, 1), zero), False, False),
            ((one, (3, 1), 0), False, False), ([one, (3, 1), zero], False, False), ((one, (6, 2), zero), False, False), ((one, (True, 1), zero), False, False),
        ]:
            self.assertIs(is_passing(FEW, (1,), value), passing)
            self.assertIs(is_bound_row(FEW, (1,), value), best)
        for kinds in [(), (1,), (2,), (1, 2)]:
            for a in [(0, 1), (1, 9), (1, 1), (-1, 9)]:
                for b in [(0, 1), (1, 9), (1, 1), (-1, 9)]:
                    values = [1, as_python(a), as_python(b)]
                    right = all(entry >= 0 for entry in values) and all(values[kind] == 0 or kind in kinds for kind in (1, 2))
                    self.assertIs(is_passing(FEW, kinds, (one, a, b)), right and all(entry >= 0 for entry in duals(FEW, values)))
        # Several rows have the greatest sum here, and all are right.
        square = counts_of(Scheme.by_ring(4))
        for a in [Fraction(0), Fraction(1), Fraction(1, 3), Fraction(2)]:
            row = (one, as_own(a), (1, 1))
            wanted = 2 + a == as_python(bound(square, (1, 2)))
            self.assertIs(is_bound_row(square, (1, 2), row), wanted)
        cube = counts_of(CUBE)
        self.assertIs(is_bound_row(cube, (1, 2, 3), ((1, 1), (3, 1), (3, 1), (1, 1))), True)
        self.assertIs(is_bound_row(cube, (1, 3), bound_row(cube, (1, 3))), True)

    def test_all_best_rows(self):
        found = 0
        for counts, kinds in each_set(5):
            worth = as_python(bound(counts, kinds))
            for fewer in [tuple([kind for kind in kinds if kind != left]) for left in kinds]:
                if as_python(bound(counts, fewer)) == worth:
                    found += 1
                    row = bound_row(counts, fewer)
                    self.assertIs(is_bound_row(counts, kinds, row), True)
                    middle = tuple([as_own((as_python(a) + as_python(b)) / 2) for a, b in zip(row, bound_row(counts, kinds))])
                    self.assertIs(is_bound_row(counts, kinds, middle), True)
        self.assertGreater(found, 20)

    def test_papers(self):
        one, zero = (1, 1), (0, 1)
        for value, wanted in [
            ((one, zero, (3, 5)), True), ((one, zero, (2, 1)), True), ((one, zero, (1, 2)), False), ((one, (1, 9), (3, 5)), False), ((one, (1, 9), (9, 5)), True),
            ((one, zero, (-3, 5)), False), ((one, (-1, 9), (3, 5)), False), ((zero, zero, (3, 5)), False), (((2, 1), zero, (6, 5)), False), ((1, zero, (3, 5)), False),
            ((one, 0, (3, 5)), False), ((one, zero, (6, 10)), False), ((one, zero), False), ([one, zero, (3, 5)], False), ((one, zero, (3 * HIGH + 1, 5 * HIGH)), True),
            ((one, zero, (3 * HIGH - 1, 5 * HIGH)), False), ((one, (False, 1), (3, 5)), False),
        ]:
            self.assertIs(is_bound_paper(FEW, (1,), value), wanted, value)
        self.assertIs(is_bound_paper(FEW, (), ((1, 1), (0, 1), (0, 1))), True)

    def test_partner_rows(self):
        one, zero = (1, 1), (0, 1)
        for value, wanted in [
            ((one, zero, (3, 2)), True), ((one, zero, zero), True), ((one, zero, (-1, 1)), True), ((one, (-1, 1), zero), True), ((one, (1, 9), (3, 2)), False),
            ((one, zero, (3, 1)), True), ((one, zero, (31, 10)), False), ((one, zero, (-9, 1)), False), (((2, 1), zero, zero), False), ((one, zero), False),
            ((one, 0, zero), False), ((one, zero, (2, 4)), False), ([one, zero, zero], False),
        ]:
            a = [as_python(entry) for entry in value]
            right = len(a) == 3 and a[0] == 1 and a[1] <= 0 and all(entry >= 0 for entry in duals(FEW, a)) and isinstance(value, tuple)
            right = right and all(isinstance(entry, tuple) and as_own(as_python(entry)) == entry for entry in value)
            self.assertIs(is_partner_row(FEW, (1,), value), right, value)
        # A partner row with the sum 0 is one, and makes no paper.
        flat = (one, (-1, 1), zero)
        if all(entry >= 0 for entry in duals(FEW, [as_python(entry) for entry in flat])):
            self.assertIs(type(error_of(paper_of_row, FEW, flat)), InvalidOperation)
        lone = counts_of(Scheme.lone(4))
        self.assertIs(is_partner_row(lone, (1,), (one, (-1, 1))), True)
        self.assertIs(type(error_of(paper_of_row, lone, (one, (-1, 1)))), InvalidOperation)
        self.assertIs(is_partner_row(lone, (), (one, (-1, 1))), True)
        self.assertIs(is_partner_row(lone, (), (one, (-2, 1))), False)
        self.assertIs(is_partner_row(lone, (), (one, (3, 1))), True)
        self.assertIs(is_partner_row(lone, (1,), (one, (3, 1))), False)


class Edges(unittest.TestCase):

    def test_one_point(self):
        row = ((1, 1),)
        self.assertEqual([call(ONLY, ()) for call in CALLS], [(1, 1), (1, 1), (1, 1), row, row, row, 1])
        self.assertEqual([judge(ONLY, (), row) for judge in JUDGES], [True] * 4)
        self.assertEqual([paper_worth(ONLY, row), row_of_paper(ONLY, row), paper_of_row(ONLY, row)], [(1, 1), row, row])

    def test_errors(self):
        for call in CALLS + [lambda counts, kinds, judge=judge: judge(counts, kinds, None) for judge in JUDGES]:
            self.assertIs(type(error_of(call, PAIRS, (1,))), InvalidCounts)
            for kinds in [(0,), (3,), (2, 1), (1, 1), [1], (True,), 1, None]:
                self.assertIs(type(error_of(call, FEW, kinds)), InvalidKinds)
                self.assertIs(type(error_of(call, RING, kinds)), InvalidKinds)
            error = error_of(call, RING, (1,))
            self.assertEqual((type(error), error.reason), (Refused, ("eigenvalues",)))
        paper = ((1, 1), (0, 1), (3, 5))
        for call in [paper_worth, row_of_paper, paper_of_row]:
            self.assertIs(type(error_of(call, RING, paper[:2])), InvalidOperation)
            self.assertEqual(error_of(call, RING, paper).reason, ("eigenvalues",))
            self.assertIs(type(error_of(call, FEW, list(paper))), InvalidOperation)
        for row in [((1, 1), (-1, 1), (0, 1)), ((1, 1), (0, 1), (-1, 1)), ((1, 1), (0, 1), (4, 1)), ((1, 1), (-2, 1), (0, 1)), ((1, 1), (7, 1), (0, 1)), ((1, 1), (0, 1), 1)]:
            self.assertIs(type(error_of(paper_of_row, FEW, row)), InvalidOperation)
        self.assertIs(type(error_of(paper_of_row, RING, ((1, 1), (-1, 1), (0, 1)))), InvalidOperation)
        self.assertEqual(paper_of_row(FEW, ((1, 1), (0, 1), (0, 1))), ((1, 1), (1, 1), (1, 1)))

    def test_counts_of_no_scheme(self):
        self.assertIn(SEVEN, integer_counts())
        self.assertEqual(as_python(bound(SEVEN, (2,))) * as_python(partner(SEVEN, (2,))), 7)

    def test_not_true(self):
        words = counts_of(Scheme.by_places(5, 2))
        self.assertEqual(as_python(bound(words, (1, 2))) * as_python(bound(words, (3, 4, 5))), 24)
        self.assertEqual(as_python(bound(words, (1, 2))) * as_python(partner(words, (1, 2))), 32)
        # Five words of four places at most differ at one or two places from each other.
        self.assertEqual((lots_bound(counts_of(Scheme.by_places(4, 2)), (1, 2)), greatest_size(Scheme.by_places(4, 2), (1, 2))), (6, 5))


class Simplex(unittest.TestCase):

    def test_small_ones(self):
        self.assertEqual(greatest([[1]], [1]), ([(1, 1)], [(1, 1)]))
        self.assertEqual(greatest([[2, 0], [0, 3]], [1, 1]), ([(1, 2), (1, 3)], [(1, 2), (1, 3)]))
        self.assertEqual(greatest([[1]], []), ([], [(0, 1)]))
        self.assertEqual(greatest([], []), ([], []))
        self.assertEqual(greatest([[1, -1], [-1, 2]], [0, 0])[0], [(0, 1), (0, 1)])

    def test_drawn_ones(self):
        draw = random.Random(17)
        for _ in range(400):
            width, many = draw.randint(1, 4), draw.randint(1, 5)
            bounds = [[draw.randint(-3, 3) for _ in range(width)] for _ in range(many)] + [[1] * width]
            gains = [draw.randint(-4, 4) for _ in range(width)]
            entries, weights = greatest(bounds, gains)
            x, y = [as_python(entry) for entry in entries], [as_python(entry) for entry in weights]
            self.assertTrue(all(entry >= 0 for entry in x + y))
            self.assertTrue(all(sum(a * b for a, b in zip(row, x)) <= 1 for row in bounds))
            self.assertTrue(all(sum(row[at] * b for row, b in zip(bounds, y)) >= gain for at, gain in enumerate(gains)))
            self.assertEqual(sum(a * b for a, b in zip(gains, x)), sum(y))


if __name__ == "__main__":
    unittest.main()
