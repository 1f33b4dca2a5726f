"""Points 6.1 to 6.6, and 0.12."""

import random
import unittest
from fractions import Fraction
from itertools import product
from math import comb, prod

from tests.samples import CUBE, PAIRS, SEVEN, TEN, integer_counts, plain_counts, rows_by_search, schemes
from tests.support import LONG, SIXTY, as_own, as_python, drawn_number, error_of, pairs_of, run_examples
from thirdcounts.base.tables import determinant, idle_table, table_product, table_rank, table_scaled, table_sum, table_trace
from thirdcounts.eigen import spaces as module
from thirdcounts.eigen.spaces import (
    counts_by_table, first_table, frame_number, has_integer_values, is_first_table, multiplicities, row_with_values, second_table,
    space_share, space_values
)
from thirdcounts.errors import InvalidCounts, InvalidNumber, InvalidOperation, InvalidScheme, InvalidTable, Refused
from thirdcounts.pairs.counts import counts_of, is_counts, kinds_product, lone_counts
from thirdcounts.pairs.schemes import Scheme

EXAMPLES = """
>>> from thirdcounts.pairs.counts import counts_of
>>> FEW, CORNERS = counts_of(PAIRS), counts_of(CUBE)
>>> [first_table(FEW), second_table(FEW)[2], multiplicities(FEW), first_table(CORNERS), frame_number(FEW), has_integer_values(counts_of(Scheme.by_ring(5)))]
[((1, 6, 3), (1, 1, -2), (1, -2, 1)), ((1, 1), (-8, 3), (5, 3)), ((1, 1), (4, 1), (5, 1)), ((1, 3, 3, 1), (1, 1, -1, -1), (1, -1, -1, 1), (1, -3, 3, -1)), 900, False]
>>> [space_values(FEW, (0, 1, (1, 3))), row_with_values(FEW, (10, 0, 0)), space_share(PAIRS, 1)[0][:2], space_share(PAIRS, 1)[0][9]]
[((7, 1), (1, 3), (-5, 3)), ((1, 1), (1, 1), (1, 1)), ((2, 5), (1, 15)), (-4, 15)]
>>> [counts_by_table(((1, 6, 3), (1, 1, -2), (1, -2, 1))) == FEW, counts_by_table(((1, 4), (1, -1))), is_first_table(FEW, ((1, 6, 3), (1, -2, 1), (1, 1, -2)))]
[True, (((1, 0), (0, 4)), ((0, 1), (1, 3))), False]
>>> first_table(counts_of(Scheme.by_ring(5)))
raises Refused(('eigenvalues',))
"""

RING = Scheme.by_ring(5)


def family_rows(things, many):
    """The first table of the subsets of `many` of `things` things, by the sums of products of binomials."""
    def entry(r, i):
        return sum(
            (-1) ** j * comb(r, j) * comb(many - r, i - j) * comb(things - many - r, i - j)
            for j in range(i + 1) if i - j <= many - r and i - j <= things - many - r
        )
    most = min(many, things - many)
    return tuple(sorted([tuple([entry(r, i) for i in range(most + 1)]) for r in range(most + 1)], reverse=True))


def word_rows(places, letters):
    def entry(r, i):
        return sum((-1) ** j * (letters - 1) ** (i - j) * comb(r, j) * comb(places - r, i - j) for j in range(i + 1))
    return tuple([tuple([entry(r, i) for i in range(places + 1)]) for r in range(places + 1)])


def counts_by_hand(rows):
    """The counts of a first table as a sum over its rows, `None` if there are none."""
    size, v = range(len(rows)), rows[0]
    n = sum(v)
    many = [n / sum(Fraction(row[i] ** 2, v[i]) for i in size) for row in rows]
    numbers = [[[
        sum(m * row[i] * row[j] * row[k] for m, row in zip(many, rows)) / (n * v[k]) for j in size] for i in size] for k in size]
    if any(entry.denominator != 1 for square in numbers for row in square for entry in row):
        return None
    counts = tuple([tuple([tuple([int(entry) for entry in row]) for row in square]) for square in numbers])
    return counts if is_counts(counts) and rows_by_search(counts) == rows else None


class Examples(unittest.TestCase):

    def test_examples(self):
        self.assertEqual(run_examples(self, EXAMPLES, dict(globals())), 4)

    def test_constant(self):
        self.assertEqual(module.MAX_ROWS, 11)


class Tables(unittest.TestCase):

    def test_by_search(self):
        self.assertGreater(len(integer_counts()), 40)
        for counts in plain_counts():
            rows = rows_by_search(counts)
            self.assertIs(has_integer_values(counts), len(rows) == len(counts))
            if len(rows) == len(counts):
                self.assertEqual(first_table(counts), rows)

    def test_known_tables(self):
        for things, many in [(4, 2), (5, 2), (6, 3), (7, 2), (8, 2), (12, 1)]:
            self.assertEqual(first_table(counts_of(Scheme.by_sharing(things, many))), family_rows(things, many))
        for places, letters in [(1, 7), (2, 3), (3, 2), (3, 3), (5, 2), (2, 5)]:
            self.assertEqual(first_table(counts_of(Scheme.by_places(places, letters))), word_rows(places, letters))
        for size in [2, 9, 10 ** 9]:
            self.assertEqual(first_table(lone_counts(size)), ((1, size - 1), (1, -1)))
        self.assertEqual(first_table((((1,),),)), ((1,),))
        self.assertEqual(first_table(SEVEN), ((1, 4, 2), (1, 0, -1), (1, -3, 2)))
        self.assertEqual(multiplicities(SEVEN), ((1, 1), (14, 3), (4, 3)))

    def test_products(self):
        for counts in integer_counts():
            first, second, many = first_table(counts), second_table(counts), multiplicities(counts)
            v, n, kinds = first[0], sum(first[0]), range(len(counts))
            self.assertEqual(many[0], (1, 1))
            self.assertEqual(sum(map(as_python, many)), n)
            self.assertEqual(table_product(first, second), table_scaled(idle_table(len(v)), n))
            self.assertEqual(table_product(second, first), table_scaled(idle_table(len(v)), n))
            for r, s in product(kinds, repeat=2):
                total = sum(Fraction(first[r][i] * first[s][i], v[i]) for i in kinds)
                self.assertEqual(total, n / as_python(many[r]) if r == s else 0)
                total = sum(as_python(m) * row[r] * row[s] for m, row in zip(many, first))
                self.assertEqual(total, n * v[r] if r == s else 0)
                self.assertEqual(as_python(second[r][s]), as_python(many[s]) * first[s][r] / v[r])
                self.assertLessEqual(abs(first[r][s]), v[s])

    def test_frame_numbers(self):
        for counts in integer_counts():
            first, many = first_table(counts), multiplicities(counts)
            n = sum(first[0])
            told = frame_number(counts)
            self.assertIsInstance(told, int)
            self.assertEqual(told, n ** len(counts) * prod(first[0]) / prod(map(as_python, many)))
            root = determinant(first)
            self.assertEqual((told, 1), (root[0] ** 2, root[1]))

    def test_judging(self):
        for counts in integer_counts():
            first = first_table(counts)
            self.assertIs(is_first_table(counts, first), True)
            for wrong in [first[::-1], first[:-1], first + first[-1:], tuple([row[::-1] for row in first]), [list(row) for row in first], list(first)]:
                self.assertIs(is_first_table(counts, wrong), wrong == first)
            self.assertIs(is_first_table(counts, ((True,) + first[0][1:],) + first[1:]), False)
            self.assertIs(is_first_table(counts, first[:-1] + (first[-1][:-1] + (first[-1][-1] + 1,),)), False)
            self.assertIs(is_first_table(counts, tuple([pairs_of(row) for row in first])), False)


class Refusing(unittest.TestCase):

    def test_no_integers(self):
        counts = counts_of(RING)
        row = (1, 2, 3)
        calls = [
            (first_table, counts), (second_table, counts), (multiplicities, counts), (frame_number, counts), (is_first_table, counts, None),
            (is_first_table, counts, ((1, 2, 2),)), (space_values, counts, row), (row_with_values, counts, row), (space_share, RING, 0),
        ]
        for call, *arguments in calls:
            error = error_of(call, *arguments)
            self.assertIs(type(error), Refused, call)
            self.assertEqual(error.reason, ("eigenvalues",))
        self.assertIs(has_integer_values(counts), False)
        for call, *arguments in [(space_values, counts, (1, 2)), (row_with_values, counts, (1, 2, 3, 4)), (row_with_values, counts, None)]:
            self.assertIs(type(error_of(call, *arguments)), InvalidOperation)
        self.assertEqual((type(error_of(space_share, RING, 3)), error_of(space_share, RING, 3).given), (InvalidNumber, 3))
        self.assertIs(type(error_of(space_share, counts, 3)), InvalidScheme)
        self.assertIs(type(error_of(is_first_table, (((0,),),), 3)), InvalidCounts)


class ByTable(unittest.TestCase):

    def test_there_and_back(self):
        for counts in integer_counts():
            if max(first_table(counts)[0]) <= 10 ** 12:
                self.assertEqual(counts_by_table(first_table(counts)), counts)

    def test_two_rows(self):
        for top, low in product(range(1, 8), range(-8, 8)):
            rows = (1, top), (1, low)
            error = error_of(counts_by_table, rows)
            if not -top <= low < top:
                self.assertIs(type(error), InvalidTable)
            elif low != -1:
                self.assertIs(type(error), InvalidOperation)
            else:
                self.assertEqual(counts_by_table(rows), lone_counts(top + 1))

    def test_three_rows(self):
        found = 0
        for top, far in product(range(1, 6), repeat=2):
            for low in product(range(-top, top + 1), range(-far, far + 1)):
                for least in product(range(-top, top + 1), range(-far, far + 1)):
                    rows = (1, top, far), (1, *low), (1, *least)
                    if rows[0] > rows[1] > rows[2] and 0 in (1 + sum(low), 1 + sum(least)):
                        wanted = counts_by_hand(rows)
                        if wanted is None:
                            self.assertIs(type(error_of(counts_by_table, rows)), InvalidOperation)
                        else:
                            found += 1
                            self.assertEqual(counts_by_table(rows), wanted)
        self.assertGreater(found, 20)

    def test_bounds(self):
        self.assertEqual(counts_by_table(((1,),)), (((1,),),))
        self.assertEqual(counts_by_table(((1, 10 ** 12), (1, -1)))[1][1], (1, 10 ** 12 - 1))
        for rows in [((1, 10 ** 12 + 1), (1, -1)), ((1, SIXTY), (1, -1)), ((1, SIXTY, SIXTY), (1, SIXTY, -SIXTY), (1, -1, 0))]:
            self.assertIs(type(error_of(counts_by_table, rows)), InvalidOperation)
        self.assertIs(type(error_of(counts_by_table, ((1, LONG), (1, -1)))), InvalidTable)
        # The numbers p(i, j; k) of this table are integers, but p(1, 1; 1) is -1.
        self.assertIs(type(error_of(counts_by_table, ((1, 4, 16), (1, 1, -2), (1, -3, 2)))), InvalidOperation)
        eleven = family_rows(20, 10)
        counts = counts_by_table(eleven)
        self.assertEqual(first_table(counts), eleven)
        self.assertEqual(sum(eleven[0]), comb(20, 10))
        twelve = tuple([(1,) + (1,) * at + (-1,) * (11 - at) for at in range(11, -1, -1)])
        self.assertEqual((len(twelve), len(twelve[0])), (12, 12))
        self.assertIs(type(error_of(counts_by_table, twelve)), InvalidTable)
        self.assertIs(type(error_of(counts_by_table, ((1, 1), (1, 1)))), InvalidTable)


class Values(unittest.TestCase):

    def each(self, many, seed):
        draw = random.Random(seed)
        for _ in range(many):
            counts = draw.choice(integer_counts())
            yield counts, [tuple([drawn_number(draw, 5) for _ in counts]) for _ in range(2)]

    def test_values(self):
        for counts, (one, other) in self.each(80, 62):
            first = first_table(counts)
            values, further = space_values(counts, one), space_values(counts, other)
            wanted = [sum(as_python(entry) * told for entry, told in zip(one, row)) for row in first]
            self.assertEqual(values, tuple([as_own(Fraction(entry)) for entry in wanted]))
            self.assertEqual(row_with_values(counts, values), tuple([as_own(as_python(entry)) for entry in one]))
            total = space_values(counts, kinds_product(counts, one, other))
            self.assertEqual(total, tuple([as_own(as_python(a) * as_python(b)) for a, b in zip(values, further)]))
            self.assertEqual(space_values(counts, row_with_values(counts, other)), tuple([as_own(as_python(entry)) for entry in other]))

    def test_integers_and_fractions(self):
        self.assertEqual(space_values(TEN, pairs_of((1, 2, 3))), space_values(TEN, (1, 2, 3)))
        self.assertEqual(row_with_values(TEN, pairs_of((1, 2, 3))), row_with_values(TEN, (1, 2, 3)))
        self.assertEqual(row_with_values(TEN, ((LONG, 3), 0, 0))[0], as_own(Fraction(LONG, 30)))


class Shares(unittest.TestCase):

    def test_shares(self):
        for scheme in [PAIRS, CUBE, Scheme.by_ring(6), Scheme.lone(1), Scheme.lone(4), Scheme.by_sharing(4, 2), Scheme.by_ring(4)]:
            counts = counts_of(scheme)
            many, second = multiplicities(counts), second_table(counts)
            shares = [space_share(scheme, space) for space in range(scheme.most + 1)]
            total = shares[0]
            for share in shares[1:]:
                total = table_sum(total, share)
            self.assertEqual(total, idle_table(scheme.size))
            nothing = table_scaled(idle_table(scheme.size), 0)
            for r, one in enumerate(shares):
                self.assertEqual(table_trace(one), many[r])
                self.assertEqual((table_rank(one), 1), many[r])
                for x, y in product(range(scheme.size), repeat=2):
                    self.assertEqual(as_python(one[x][y]), as_python(second[scheme.kind_of(x, y)][r]) / scheme.size)
                for s, other in enumerate(shares):
                    self.assertEqual(table_product(one, other), one if r == s else nothing)

    def test_multiplicities_of_schemes(self):
        for scheme in schemes():
            if has_integer_values(counts_of(scheme)):
                self.assertTrue(all(bottom == 1 for _, bottom in multiplicities(counts_of(scheme))))

    def test_not_true(self):
        shifted = counts_of(Scheme.by_sharing(6, 2))
        many, v = [top for top, _ in multiplicities(shifted)], first_table(shifted)[0]
        self.assertNotEqual(sorted(many), sorted(v))
        self.assertEqual(first_table(counts_of(Scheme.by_ring(4)))[1:], ((1, 0, -1), (1, -2, 1)))


if __name__ == "__main__":
    unittest.main()
