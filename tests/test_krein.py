"""Points 7.1 to 7.6, and the Krein numbers of 0.15 and 0.21."""

import unittest
from fractions import Fraction
from functools import cache
from itertools import permutations, product
from math import comb, prod

from tests.samples import CUBE, PAIRS, SEVEN, SQUARE, TEN, integer_counts, schemes
from tests.support import as_own, as_python, error_of, run_examples
from thirdcounts.eigen import krein as module
from thirdcounts.eigen.krein import (
    absolute_fault, are_dual, balance, ball_bound, ball_mean, ball_products, krein_fault, krein_number, krein_table, unlike_points
)
from thirdcounts.eigen.spaces import counts_by_table, first_table, has_integer_values, multiplicities, second_table
from thirdcounts.errors import InvalidCounts, InvalidNumber, Refused, TooMany
from thirdcounts.ladder.ladders import counts_of_array
from thirdcounts.pairs.counts import counts_of, counts_renumbered, is_counts, lone_counts
from thirdcounts.pairs.schemes import Scheme

EXAMPLES = """
>>> ONE, TWO, THREE = counts_of(PAIRS), counts_of(SQUARE), counts_of(CUBE)
>>> [krein_number(ONE, 1, 1, 1), krein_number(ONE, 1, 2, 1), krein_table(TWO)[1], krein_fault(ONE), absolute_fault(ONE)]
[(2, 9), (25, 9), (((0, 1), (1, 1), (0, 1)), ((1, 1), (1, 1), (2, 1)), ((0, 1), (2, 1), (2, 1))), None, None]
>>> [are_dual(TWO, TWO), are_dual(THREE, THREE), are_dual(ONE, ONE), are_dual(TWO, THREE)]
[True, True, False, False]
>>> [ball_products(ONE, 1), ball_products(THREE, 2), unlike_points(THREE, 2), ball_bound(ONE, 1), ball_bound(THREE, 1)]
[((1, 1), (1, 6), (-2, 3)), ((1, 1), (-1, 3), (-1, 3), (1, 1)), (4, 1), 14, 16]
>>> [balance(THREE, space) for space in range(4)], balance(ONE, 1), ball_mean(ONE, 1, 2), ball_mean(THREE, 1, 4)
([0, 3, 2, 12], 2, (1, 4), (7, 27))
>>> krein_number(ONE, 0, 3, 1)
raises InvalidNumber(3)
"""

RING = counts_of(Scheme.by_ring(5))


def krein_by_hand(counts):
    """The Krein numbers at [t][r][s] as the sums over the second and the first table."""
    first, second = first_table(counts), [[as_python(entry) for entry in row] for row in second_table(counts)]
    kinds, n = range(len(counts)), sum(first[0])
    return [[[sum(second[i][r] * second[i][s] * first[t][i] for i in kinds) / n for s in kinds] for r in kinds] for t in kinds]


@cache
def of_schemes():
    return [counts_of(scheme) for scheme in schemes() if has_integer_values(counts_of(scheme))]


def below_zero():
    """Counts with a Krein number below 0, and counts with too great a product, that no scheme has."""
    return counts_of_array(((9, 8), (1, 4))), counts_of_array(((21, 16), (1, 12)))


class Examples(unittest.TestCase):

    def test_examples(self):
        self.assertEqual(run_examples(self, EXAMPLES, dict(globals())), 5)

    def test_constants(self):
        self.assertEqual((module.MAX_BALANCE, module.MAX_DUAL), (12, 7))


class Numbers(unittest.TestCase):

    def test_by_hand(self):
        for counts in integer_counts():
            told = [[[as_python(entry) for entry in row] for row in square] for square in krein_table(counts)]
            self.assertEqual(told, krein_by_hand(counts))
        for counts in integer_counts()[::9]:
            for r, s, t in product(range(len(counts)), repeat=3):
                self.assertEqual(krein_number(counts, r, s, t), krein_table(counts)[t][r][s])

    def test_what_they_keep(self):
        for counts in integer_counts():
            q = [[[as_python(entry) for entry in row] for row in square] for square in krein_table(counts)]
            m, second = [as_python(entry) for entry in multiplicities(counts)], second_table(counts)
            spaces = range(len(counts))
            for r, s in product(spaces, repeat=2):
                self.assertEqual(q[s][0][r], int(r == s))
                self.assertEqual(q[0][r][s], m[r] if r == s else 0)
                self.assertEqual(sum(q[s][r]), m[r])
                for i in spaces:
                    told = as_python(second[i][r]) * as_python(second[i][s])
                    self.assertEqual(told, sum(q[t][r][s] * as_python(second[i][t]) for t in spaces))
                for t in spaces:
                    self.assertEqual(q[t][r][s], q[t][s][r])
                    self.assertEqual(m[t] * q[t][r][s], m[r] * q[r][t][s])

    def test_schemes_have_no_faults(self):
        self.assertGreater(len(of_schemes()), 25)
        for counts in of_schemes():
            self.assertIsNone(krein_fault(counts))
            self.assertIsNone(absolute_fault(counts))

    def test_faults(self):
        found = [0, 0]
        for counts in integer_counts() + below_zero():
            q, m = krein_by_hand(counts), [as_python(entry) for entry in multiplicities(counts)]
            spaces = range(len(counts))
            below = [(r, s, t) for r, s, t in product(spaces, repeat=3) if q[t][r][s] < 0]
            self.assertEqual(krein_fault(counts), below[0] if below else None)
            over = []
            for r, s in product(spaces, repeat=2):
                total = sum(m[t] for t in spaces if q[t][r][s] != 0)
                if r <= s and total > (m[r] * (m[r] + 1) / 2 if r == s else m[r] * m[s]):
                    over.append((r, s))
            self.assertEqual(absolute_fault(counts), over[0] if over else None)
            found[0] += bool(below)
            found[1] += bool(over)
        self.assertEqual([count > 0 for count in found], [True, True])
        self.assertEqual(krein_fault(counts_of_array(((45, 40), (1, 24)))), (2, 2, 2))
        self.assertEqual(krein_number(counts_of_array(((45, 40), (1, 24))), 2, 2, 2), (-1, 1))
        self.assertEqual(absolute_fault(counts_of_array(((9, 8, 4), (1, 4, 6)))), (1, 3))
        one, other = below_zero()
        self.assertEqual(krein_fault(one), (2, 2, 2))
        self.assertIsNone(krein_fault(other))
        self.assertIsNotNone(absolute_fault(other))

    def test_unlike_spaces_can_be_too_many(self):
        # A fault at unlike eigenspaces is told, too: 14/3 times 4/3 is below 7.
        self.assertEqual(multiplicities(SEVEN)[1:], ((14, 3), (4, 3)))
        m = [as_python(entry) for entry in multiplicities(SEVEN)]
        q = krein_by_hand(SEVEN)
        for r, s in product(range(3), repeat=2):
            total = sum(m[t] for t in range(3) if q[t][r][s] != 0)
            limit = m[r] * (m[r] + 1) / 2 if r == s else m[r] * m[s]
            if total > limit and r <= s:
                self.assertLessEqual(absolute_fault(SEVEN), (r, s))

    def test_errors(self):
        for arguments, given in [((3, 3, 4), 3), ((0, 3, 4), 3), ((0, 2, 4), 4), ((-1, 0, 0), -1), ((0, -2, -1), -2)]:
            error = error_of(krein_number, TEN, *arguments)
            self.assertEqual((type(error), error.given), (InvalidNumber, given))
        calls = [
            (krein_number, RING, 0, 0, 0), (krein_table, RING), (krein_fault, RING), (absolute_fault, RING), (ball_products, RING, 0),
            (unlike_points, RING, 0), (ball_bound, RING, 0), (ball_mean, RING, 0, 0), (balance, RING, 0), (are_dual, RING, TEN), (are_dual, TEN, RING),
            (are_dual, RING, (((1,),),)), (are_dual, (((1,),),), RING),
        ]
        for call, *arguments in calls:
            error = error_of(call, *arguments)
            self.assertEqual((type(error), error.reason), (Refused, ("eigenvalues",)), call)
        for call, *arguments in [(krein_number, RING, 0, 0, 3), (ball_products, RING, 3), (ball_mean, RING, 3, 13), (balance, RING, 3), (ball_bound, RING, 3)]:
            error = error_of(call, *arguments)
            self.assertEqual((type(error), error.given), (InvalidNumber, 3))
        self.assertEqual(error_of(ball_mean, RING, 2, 13).given, 13)


class Dual(unittest.TestCase):

    def test_known_duals(self):
        for places, letters in [(1, 4), (2, 3), (3, 2), (2, 4), (3, 3), (5, 2)]:
            counts = counts_of(Scheme.by_places(places, letters))
            self.assertIs(are_dual(counts, counts), True)
        self.assertIs(are_dual((((1,),),), (((1,),),)), True)
        self.assertIs(are_dual((((1,),),), TEN), False)
        self.assertIs(are_dual(TEN, (((1,),),)), False)
        self.assertIs(are_dual(lone_counts(5), lone_counts(6)), False)

    def test_by_all_orders(self):
        some = [counts for counts in integer_counts() if len(counts) <= 5]
        found = 0
        for one in some:
            q = krein_by_hand(one)
            for other in some:
                wanted = False
                if len(one) == len(other) and sum(first_table(one)[0]) == sum(first_table(other)[0]):
                    for rest in permutations(range(1, len(one))):
                        order = (0, *rest)
                        places = product(range(len(one)), repeat=3)
                        wanted = wanted or all(q[t][r][s] == other[order[t]][order[r]][order[s]] for r, s, t in places)
                self.assertIs(are_dual(one, other), wanted)
                self.assertIs(are_dual(other, one), wanted)
                found += wanted and one != other
        self.assertGreater(found, 1)

    def test_renumbered(self):
        counts = counts_of(Scheme.by_places(3, 3))
        for rest in permutations((1, 2, 3)):
            self.assertIs(are_dual(counts, counts_renumbered(counts, (0, *rest))), True)

    def test_limits(self):
        eight = counts_of_array(((7, 6, 5, 4, 3, 2, 1), (1, 2, 3, 4, 5, 6, 7)))
        nine = counts_of_array(((8, 7, 6, 5, 4, 3, 2, 1), (1, 2, 3, 4, 5, 6, 7, 8)))
        self.assertEqual((len(eight), len(nine)), (8, 9))
        self.assertIs(are_dual(eight, eight), True)
        for pair in [(nine, nine), (nine, eight), (eight, nine), (RING, nine), (nine, RING)]:
            error = error_of(are_dual, *pair)
            self.assertEqual((type(error), error.limit), (TooMany, 7))
        self.assertIs(type(error_of(are_dual, nine, None)), InvalidCounts)
        self.assertIs(type(error_of(are_dual, RING, (((0,),),))), InvalidCounts)


class Balls(unittest.TestCase):

    def each(self):
        for counts in integer_counts():
            first, many = first_table(counts), multiplicities(counts)
            for space in range(len(counts)):
                yield counts, space, first[0], [Fraction(entry, v) for entry, v in zip(first[space], first[0])], as_python(many[space])

    def test_products_and_points(self):
        for counts, space, v, products, _ in self.each():
            self.assertEqual(ball_products(counts, space), tuple([as_own(entry) for entry in products]))
            self.assertTrue(all(-1 <= entry <= 1 for entry in products))
            together = sum(weight for weight, entry in zip(v, products) if entry == 1)
            self.assertEqual(unlike_points(counts, space), as_own(Fraction(sum(v), together)))

    def test_bounds(self):
        refused = 0
        for counts, space, _, products, m in self.each():
            u = len(set(products) - {1})
            if m.denominator != 1:
                refused += 1
                error = error_of(ball_bound, counts, space)
                self.assertEqual((type(error), error.reason), (Refused, ("multiplicity",)))
            else:
                m = int(m)
                wanted = comb(m + u - 1, u) + comb(m + u - 2, u - 1) if u else 1
                self.assertEqual(ball_bound(counts, space), wanted)
                if counts in of_schemes():
                    self.assertLessEqual(as_python(unlike_points(counts, space)), wanted)
        self.assertGreater(refused, 1)
        self.assertEqual([ball_bound(lone_counts(2), space) for space in (0, 1)], [1, 2])
        self.assertEqual(ball_bound(lone_counts(10 ** 9), 1), 10 ** 9)

    def test_means(self):
        for counts, space, v, products, m in self.each():
            for many in range(13):
                mean = sum(weight * entry ** many for weight, entry in zip(v, products)) / sum(v)
                self.assertEqual(ball_mean(counts, space, many), as_own(Fraction(mean)))
                if counts in of_schemes():
                    self.assertGreaterEqual(mean, whole_ball(m, many))

    def test_balance(self):
        for counts, space, v, products, m in self.each():
            wanted = 0
            while wanted < 12 and as_python(ball_mean(counts, space, wanted + 1)) == whole_ball(m, wanted + 1):
                wanted += 1
            told = balance(counts, space)
            self.assertEqual(told, wanted)
            if space == 0:
                self.assertEqual(told, 0)
            else:
                self.assertGreaterEqual(told, 2)
                self.assertIs(told >= 3, krein_number(counts, space, space, space) == (0, 1))
                if m == 1:
                    self.assertEqual(told, 12)

    def test_points_of_a_ball(self):
        # The share of an eigenspace, made longer, has the inner products of the points on its ball.
        counts = counts_of(CUBE)
        corners = [tuple([1 - 2 * (point >> place & 1) for place in (2, 1, 0)]) for point in range(8)]
        for x, y in product(range(8), repeat=2):
            told = ball_products(counts, 1)[CUBE.kind_of(x, y)]
            self.assertEqual(as_python(told), Fraction(sum(a * b for a, b in zip(corners[x], corners[y])), 3))

    def test_tight_balls(self):
        # The 6 points of a ring, the 240 and the 196560 points of least kissing lattices in 8 and 24 dimensions.
        third = Fraction(1, 2)
        cases = [
            (2, [1, third, -third, -1], [1, 2, 2, 1], 5), (8, [1, third, 0, -third, -1], [1, 56, 126, 56, 1], 7),
            (24, [1, third, third / 2, 0, -third / 2, -third, -1], [1, 4600, 47104, 93150, 47104, 4600, 1], 11),
        ]
        for m, products, v, wanted in cases:
            counts = counts_by_table(rows_of_ball(m, products, v))
            space = [ball_products(counts, space)[1] for space in range(len(v))].index((1, 2))
            self.assertEqual(multiplicities(counts)[space], (m, 1))
            self.assertEqual(balance(counts, space), wanted)
            self.assertGreaterEqual(ball_bound(counts, space), sum(v))

    def test_mean_bounds(self):
        self.assertEqual(ball_mean(TEN, 1, 0), (1, 1))
        self.assertEqual(error_of(ball_mean, TEN, 1, 13).given, 13)
        self.assertEqual(error_of(ball_mean, TEN, 1, -1).given, -1)
        self.assertEqual(ball_mean(TEN, 0, 12), (1, 1))


def rows_of_ball(m, products, v):
    """The first table of points with these inner products, as many as v tells, by polynomials that are 0 together on the whole ball."""
    def pairing(one, other):
        return sum(weight * a * b for weight, a, b in zip(v, one, other))
    found = []
    for degree in range(len(v)):
        row = [Fraction(entry) ** degree for entry in products]
        for low in found:
            factor = pairing(row, low) / pairing(low, low)
            row = [a - factor * b for a, b in zip(row, low)]
        found.append([entry / row[0] for entry in row])
    assert pairing(found[1], found[1]) * m == sum(v)
    rows = [tuple([int(entry * weight) for entry, weight in zip(row, v)]) for row in found]
    return tuple(sorted(rows, reverse=True))


def whole_ball(m, many):
    if many % 2:
        return 0
    return Fraction(prod(range(1, many, 2)), 1) / prod([m + step for step in range(0, many, 2)])


class NotTrue(unittest.TestCase):

    def test_not_true(self):
        self.assertEqual(krein_number(counts_of(PAIRS), 1, 1, 1)[1], 9)
        # All Krein numbers are at least 0, and yet no scheme has these counts: a multiplicity is no integer.
        self.assertIs(is_counts(SEVEN), True)
        self.assertIsNone(krein_fault(counts_of_array(((57, 56), (1, 1)))))
        self.assertEqual(len(counts_of(SQUARE)), 3)


if __name__ == "__main__":
    unittest.main()
