"""Points 15.1 to 15.6, 0.13 and 0.15."""

import random
import unittest
from collections import Counter
from fractions import Fraction
from functools import cache

from tests.samples import CUBE, PAIRS, TEN, integer_counts, schemes
from tests.support import as_own, as_python, drawn_number, error_of, run_examples
from thirdcounts.base.polys import poly_sum, poly_value
from thirdcounts.eigen.spaces import first_table, multiplicities, second_table, space_share
from thirdcounts.errors import InvalidLot, InvalidNumber, InvalidOperation, InvalidOrder, InvalidScheme, Refused
from thirdcounts.ladder.ladders import array_of, kind_ladders, ladder_polys, space_ladders
from thirdcounts.lots.counting import (
    degree, dual_counts, dual_degree, dual_row, farthest, inner_counts, inner_row, is_perfect, least_distance, lot_scheme, outer_counts, rest_of,
    size_bounds, strength
)
from thirdcounts.pairs.counts import counts_of
from thirdcounts.pairs.schemes import Scheme, is_scheme_table

EXAMPLES = """
>>> EVEN, ENDS = (0, 3, 5, 6), (0, 7)
>>> [inner_counts(CUBE, EVEN), dual_counts(CUBE, EVEN), outer_counts(CUBE, ENDS, 1), degree(CUBE, EVEN), dual_degree(CUBE, ENDS), rest_of(CUBE, EVEN)]
[((1, 1), (0, 1), (3, 1), (0, 1)), ((4, 1), (0, 1), (0, 1), (4, 1)), (0, 1, 1, 0), 1, 1, (1, 2, 4, 7)]
>>> ROW = (0, 1, 2, 3)
>>> [strength(CUBE, ROW, EVEN), size_bounds(CUBE, ROW, EVEN), farthest(CUBE, ROW, EVEN), least_distance(CUBE, ROW, EVEN), is_perfect(CUBE, ROW, EVEN), is_perfect(CUBE, ROW, ENDS)]
[2, (4, 4), 1, 2, False, True]
>>> [lot_scheme(CUBE, EVEN).table, lot_scheme(CUBE, (0, 1, 2)), dual_row(counts_of(CUBE), (1, 0, 0, 1)), inner_row(counts_of(CUBE), (2, 0, 6, 0))]
[((0, 1, 1, 1), (1, 0, 1, 1), (1, 1, 0, 1), (1, 1, 1, 0)), None, ((2, 1), (0, 1), (6, 1), (0, 1)), ((1, 1), (0, 1), (0, 1), (1, 1))]
>>> rest_of(CUBE, (0, 1, 2, 3, 4, 5, 6, 7))
raises InvalidOperation
"""

PENTAGON = Scheme.by_ring(5)
ROW = (0, 1, 2, 3)


@cache
def drawn_lots():
    """Pairs of a scheme and of a lot of it, single points and all points among them."""
    draw = random.Random(15)
    found = []
    for scheme in schemes():
        whole = range(scheme.size)
        found += [(scheme, (draw.choice(whole),)), (scheme, tuple(whole))]
        found += [(scheme, tuple(sorted(draw.sample(whole, draw.randint(1, scheme.size))))) for _ in range(4)]
        # What is round a point, and what is equal to one at a first point, has more to tell.
        kind = draw.randint(0, scheme.most)
        found += [(scheme, scheme.around(draw.choice(whole), kind)), (scheme, tuple(sorted(set(scheme.around(0, kind)) | {0})))]
    return tuple(found)


def has_integers(scheme):
    return counts_of(scheme) in integers()


@cache
def integers():
    return set(integer_counts())


def ladders_of(scheme, call):
    return told_once(call, counts_of(scheme))


@cache
def told_once(call, counts):
    return call(counts)


def by_spaces(scheme):
    return told_once(tables_of, counts_of(scheme))


def tables_of(counts):
    first, second = first_table(counts), [[as_python(entry) for entry in row] for row in second_table(counts)]
    return first, second, [as_python(entry) for entry in multiplicities(counts)]


def duals_by_hand(scheme, lot):
    second = by_spaces(scheme)[1]
    a = inner_by_hand(scheme, lot)
    return [sum(a[i] * second[i][r] for i in range(len(a))) for r in range(len(a))]


def inner_by_hand(scheme, lot):
    kinds = Counter(scheme.table[x][y] for x in lot for y in lot)
    return [Fraction(kinds[i], len(lot)) for i in range(scheme.most + 1)]


class Examples(unittest.TestCase):

    def test_examples(self):
        self.assertEqual(run_examples(self, EXAMPLES, dict(globals())), 4)


class InnerAndOuter(unittest.TestCase):

    def test_inner_and_outer(self):
        for scheme, lot in drawn_lots():
            told = inner_counts(scheme, lot)
            self.assertEqual(told, tuple([as_own(entry) for entry in inner_by_hand(scheme, lot)]))
            self.assertEqual(told[0], (1, 1))
            self.assertEqual(sum(map(as_python, told)), len(lot))
            outer = [outer_counts(scheme, lot, point) for point in range(scheme.size)]
            for point, row in enumerate(outer):
                kinds = Counter(scheme.table[point][other] for other in lot)
                self.assertEqual(row, tuple([kinds[i] for i in range(scheme.most + 1)]))
            for i in range(scheme.most + 1):
                self.assertEqual(Fraction(sum(outer[point][i] for point in lot), len(lot)), as_python(told[i]))
                self.assertEqual(sum(row[i] for row in outer), len(lot) * scheme.valencies[i])
            self.assertEqual(degree(scheme, lot), len({scheme.table[x][y] for x in lot for y in lot}) - 1)
            self.assertIs(degree(scheme, lot) == 0, len(lot) == 1)

    def test_rests(self):
        for scheme, lot in drawn_lots():
            if len(lot) == scheme.size:
                self.assertIs(type(error_of(rest_of, scheme, lot)), InvalidOperation)
                continue
            rest = rest_of(scheme, lot)
            self.assertEqual(rest, tuple([point for point in range(scheme.size) if point not in lot]))
            if has_integers(scheme):
                b, c = dual_counts(scheme, lot), dual_counts(scheme, rest)
                for one, other in list(zip(b, c))[1:]:
                    self.assertEqual(as_python(other), as_python(one) * len(lot) / len(rest))
                self.assertEqual(dual_degree(scheme, lot), dual_degree(scheme, rest))


class Duals(unittest.TestCase):

    def test_dual_counts(self):
        refused = 0
        for scheme, lot in drawn_lots():
            if not has_integers(scheme):
                refused += 1
                for call in [dual_counts, dual_degree]:
                    self.assertEqual(error_of(call, scheme, lot).reason, ("eigenvalues",))
                continue
            told = dual_counts(scheme, lot)
            wanted = duals_by_hand(scheme, lot)
            self.assertEqual(told, tuple([as_own(entry) for entry in wanted]))
            self.assertTrue(all(entry >= 0 for entry in wanted))
            self.assertEqual((told[0], sum(wanted)), ((len(lot), 1), scheme.size))
            many = len([entry for entry in wanted[1:] if entry != 0])
            self.assertEqual(dual_degree(scheme, lot), many)
            self.assertIs(many == 0, len(lot) == scheme.size)
            inner = inner_counts(scheme, lot)
            self.assertEqual(dual_row(counts_of(scheme), inner), told)
            self.assertEqual(inner_row(counts_of(scheme), told), inner)
        self.assertGreater(refused, 20)

    def test_by_shares(self):
        """The dual counts are n / |Y| times what the shares of the eigenspaces give for the lot."""
        for scheme, lot in drawn_lots():
            if has_integers(scheme) and scheme.size <= 10:
                for r, told in enumerate(dual_counts(scheme, lot)):
                    share = space_share(scheme, r)
                    total = sum(as_python(share[x][y]) for x in lot for y in lot)
                    self.assertEqual(as_python(told), total * scheme.size / len(lot))

    def test_rows(self):
        draw = random.Random(51)
        for counts in integer_counts():
            first, second = first_table(counts), second_table(counts)
            for _ in range(3):
                row = tuple([drawn_number(draw, 30) for _ in counts])
                at = range(len(row))
                duals = [sum(as_python(row[i]) * as_python(second[i][r]) for i in at) for r in at]
                self.assertEqual(dual_row(counts, row), tuple([as_own(entry) for entry in duals]))
                inner = [sum(as_python(row[r]) * first[r][i] for r in at) / sum(first[0]) for i in at]
                self.assertEqual(inner_row(counts, row), tuple([as_own(entry) for entry in inner]))
                self.assertEqual(inner_row(counts, dual_row(counts, row)), tuple([as_own(as_python(entry)) for entry in row]))


class Strength(unittest.TestCase):

    def test_strength(self):
        found = Counter()
        for scheme, lot in drawn_lots():
            if not has_integers(scheme):
                continue
            b, many = duals_by_hand(scheme, lot), by_spaces(scheme)[2]
            for order in ladders_of(scheme, space_ladders):
                t = max(t for t in range(scheme.most + 1) if all(b[order[i]] == 0 for i in range(1, t + 1)))
                self.assertEqual(strength(scheme, order, lot), t)
                s = degree(scheme, lot)
                low, high = size_bounds(scheme, order, lot)
                self.assertEqual((low, high), (sum(many[order[i]] for i in range(t // 2 + 1)), sum(many[order[i]] for i in range(s + 1))))
                self.assertTrue(isinstance(low, int) and isinstance(high, int) and low <= len(lot) <= high)
                found[t] += 1
                if t >= 2 * s - 2:
                    found["scheme"] += 1
                    self.assertIsNot(lot_scheme(scheme, lot), None)
        self.assertGreater(min(found[0], found[1], found[2], found["scheme"]), 10)

    def test_lot_schemes(self):
        found = Counter()
        for scheme, lot in drawn_lots():
            kinds = sorted({scheme.table[x][y] for x in lot for y in lot})
            table = tuple([tuple([kinds.index(scheme.table[x][y]) for y in lot]) for x in lot])
            told = lot_scheme(scheme, lot)
            self.assertIs(told is not None, is_scheme_table(table))
            found[told is not None] += 1
            if told is not None:
                self.assertEqual(told.table, table)
        self.assertGreater(min(found.values()), 50)
        self.assertEqual(lot_scheme(PENTAGON, (2,)), Scheme.lone(1))


class Distances(unittest.TestCase):

    def test_distances(self):
        found = Counter()
        for scheme, lot in drawn_lots():
            for order in ladders_of(scheme, kind_ladders):
                distance = [[order.index(kind) for kind in row] for row in scheme.table]
                far = max(min(distance[x][y] for y in lot) for x in range(scheme.size))
                self.assertEqual(farthest(scheme, order, lot), far)
                some = [distance[x][y] for x in lot for y in lot if x != y]
                self.assertEqual(least_distance(scheme, order, lot), min(some) if some else None)
                h = (min(some) - 1) // 2 if some else scheme.most
                total = len(lot) * sum(scheme.valencies[order[i]] for i in range(h + 1))
                self.assertLessEqual(total, scheme.size)
                told = is_perfect(scheme, order, lot)
                self.assertIs(told, total == scheme.size)
                self.assertIs(told, h == far)
                found[told] += 1
                if has_integers(scheme):
                    self.assertLessEqual(far, dual_degree(scheme, lot))
                    if told:
                        self.check_perfect(scheme, order, lot, h)
        self.assertGreater(min(found.values()), 20)

    def check_perfect(self, scheme, order, lot, h):
        self.assertEqual(dual_degree(scheme, lot), h)
        total = ()
        for poly in ladder_polys(array_of(counts_of(scheme), order))[:h + 1]:
            total = poly_sum(total, poly)
        first, b = by_spaces(scheme)[0], dual_counts(scheme, lot)
        for r in range(1, scheme.most + 1):
            if b[r] != (0, 1):
                self.assertEqual(poly_value(total, first[r][order[1]]), (0, 1))

    def test_perfect_lots(self):
        words = Scheme.by_places(3, 2)
        self.assertIs(is_perfect(words, ROW, (0, 7)), True)
        self.assertIs(is_perfect(words, ROW, (0, 6)), False)
        self.assertIs(is_perfect(words, ROW, (3,)), True)
        self.assertIs(is_perfect(words, ROW, tuple(range(8))), True)
        self.assertIs(is_perfect(Scheme.by_places(5, 2), (0, 1, 2, 3, 4, 5), (0, 31)), True)
        self.assertIs(is_perfect(Scheme.by_places(4, 2), (0, 1, 2, 3, 4), (0, 15)), False)
        self.assertIs(is_perfect(PAIRS, (0, 2, 1), (0, 7)), False)
        self.assertIs(is_perfect(Scheme.by_sharing(7, 1), (0, 1), (0,)), True)
        self.assertIs(is_perfect(Scheme.lone(1), (0,), (0,)), True)
        self.assertIs(least_distance(Scheme.lone(1), (0,), (0,)), None)
        self.assertEqual(farthest(Scheme.lone(1), (0,), (0,)), 0)
        self.assertEqual((strength(Scheme.lone(1), (0,), (0,)), size_bounds(Scheme.lone(1), (0,), (0,))), (0, (1, 1)))
        self.assertEqual(farthest(PENTAGON, (0, 1, 2), (0,)), 2)
        self.assertEqual((farthest(PENTAGON, (0, 2, 1), (0, 1)), farthest(PENTAGON, (0, 2, 1), (0,))), (1, 2))
        self.assertEqual(least_distance(PENTAGON, (0, 2, 1), (0, 1)), 2)


class Errors(unittest.TestCase):

    def test_errors(self):
        for call in [strength, size_bounds, farthest, least_distance, is_perfect]:
            self.assertIs(type(error_of(call, counts_of(CUBE), (0, 1), ())), InvalidScheme)
            self.assertIs(type(error_of(call, CUBE, (0, 1, 2), ())), InvalidOrder)
            self.assertIs(type(error_of(call, CUBE, (0, 2, 1, 3), ())), InvalidLot)
            self.assertIs(type(error_of(call, CUBE, (0, 2, 1, 3), (0, 7))), InvalidOperation)
            self.assertIs(type(error_of(call, CUBE, (0, 2, 1, 3), (0, 8))), InvalidLot)
        for call in [strength, size_bounds]:
            # There are eigenvalues that are no integers, so no ladder of spaces can be told from another order.
            for order in [(0, 1, 2), (0, 2, 1)]:
                error = error_of(call, PENTAGON, order, (0, 1))
                self.assertEqual((type(error), error.reason), (Refused, ("eigenvalues",)))
            self.assertIs(type(error_of(call, PENTAGON, (0, 1, 2), ())), InvalidLot)
        self.assertEqual(least_distance(PENTAGON, (0, 1, 2), (0, 2)), 2)
        self.assertEqual((type(error_of(outer_counts, CUBE, (0, 7), 8)), error_of(outer_counts, CUBE, (0, 7), 8).given), (InvalidNumber, 8))
        self.assertIs(type(error_of(outer_counts, CUBE, (7, 0), 8)), InvalidLot)
        for call in [dual_row, inner_row]:
            for wrong in [(1, 2), (1, 2, 3, 4), (1, 2, True), [1, 2, 3], (1, 2, (2, 4)), None]:
                self.assertIs(type(error_of(call, TEN, wrong)), InvalidOperation)
            self.assertIs(type(error_of(call, counts_of(PENTAGON), (1, 2))), InvalidOperation)
            self.assertIs(type(error_of(call, counts_of(PENTAGON), (1, 2, 3))), Refused)
            self.assertEqual(len(call(TEN, (10 ** 60 - 1, (10 ** 70, 3), -4))), 3)

    def test_not_true(self):
        # Of the dual counts of a lot with the degree 1 two can be 0.
        self.assertEqual((degree(CUBE, (0, 3, 5, 6)), dual_counts(CUBE, (0, 3, 5, 6)).count((0, 1))), (1, 2))
        # Three points of one kind to each other, with a fourth point that has another one to all of them, or to none.
        scheme = Scheme.by_sharing(5, 2)
        self.assertEqual(inner_counts(scheme, (0, 1, 2)), inner_counts(scheme, (0, 1, 4)))
        self.assertNotEqual(
            sorted([outer_counts(scheme, (0, 1, 2), point) for point in range(10)]), sorted([outer_counts(scheme, (0, 1, 4), point) for point in range(10)])
        )


if __name__ == "__main__":
    unittest.main()
