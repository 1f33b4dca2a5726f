"""Points 12.1 to 12.5."""

import random
import unittest
from itertools import product

from tests import samples
from tests.samples import CUBE, PAIRS, SEVEN, TEN, plain_counts, rows_by_search
from tests.support import error_of, run_examples
from thirdcounts.eigen.spaces import first_table, has_integer_values, is_first_table
from thirdcounts.errors import InvalidCounts, InvalidNumber, InvalidScheme, Refused, TooMany
from thirdcounts.made.products import (
    MOST_COUNT, MOST_KINDS, MOST_POINTS, beside, beside_counts, beside_table, inside, inside_counts, inside_table, power, power_counts, power_table,
    power_types
)
from thirdcounts.pairs.counts import counts_fault, counts_of, counts_order, is_counts, lone_counts, points_of, valencies_of
from thirdcounts.pairs.schemes import Scheme
from thirdcounts.parts.closed import is_closed

EXAMPLES = """
>>> TWO, THREE = Scheme.lone(2), Scheme.lone(3)
>>> [beside(TWO, TWO).table, inside(TWO, TWO).table[0], power(TWO, 2).table, power_types(2, 2)]
[((0, 1, 2, 3), (1, 0, 3, 2), (2, 3, 0, 1), (3, 2, 1, 0)), (0, 1, 2, 2), ((0, 1, 1, 2), (1, 0, 2, 1), (1, 2, 0, 1), (2, 1, 1, 0)), ((0, 0), (0, 1), (0, 2), (1, 0), (1, 1), (2, 0))]
>>> [beside_table(counts_of(TWO), counts_of(THREE)), inside_table(counts_of(TWO), counts_of(THREE)), power_table(counts_of(THREE), 2)]
[((1, 2, 1, 2), (1, 2, -1, -2), (1, -1, 1, -1), (1, -1, -1, 1)), ((1, 1, 4), (1, 1, -2), (1, -1, 0)), ((1, 4, 4), (1, 1, -2), (1, -2, 1))]
>>> [power_counts(counts_of(THREE), 2) == counts_of(power(THREE, 2)), inside(TWO, THREE).size, valencies_of(inside_counts(THREE, TWO))]
[True, 6, (1, 2, 3)]
>>> power(THREE, 4)
raises TooMany(32)
"""

LONE = [Scheme.lone(size) for size in range(1, 9)]
RINGS = [Scheme.by_ring(size) for size in range(1, 9)]
SMALL = LONE[:6] + RINGS[3:] + [CUBE, PAIRS, Scheme.by_places(2, 3), Scheme.lone(16), Scheme.lone(32)]
ONLY = (((1,),),)


def types_by_hand(most, many):
    return sorted([told for told in product(range(many + 1), repeat=most) if sum(told) <= many])


def power_by_hand(scheme, many):
    names = {told: at for at, told in enumerate(types_by_hand(scheme.most, many))}
    points = list(product(range(scheme.size), repeat=many))

    def kind_of(x, y):
        kinds = [scheme.table[a][b] for a, b in zip(x, y)]
        return names[tuple([kinds.count(kind) for kind in range(1, scheme.most + 1)])]

    return tuple([tuple([kind_of(x, y) for y in points]) for x in points])


def limits(case, call, points, kinds, *arguments):
    """Check which limit, if any, a call is above."""
    error = error_of(call, *arguments)
    wanted = 32 if points > 32 else 10 if kinds > 10 else None
    case.assertEqual((type(error), getattr(error, "limit", None)), (TooMany, wanted) if wanted else (type(None), None))
    return wanted is None


class Examples(unittest.TestCase):

    def test_examples(self):
        self.assertEqual(run_examples(self, EXAMPLES, dict(globals())), 4)
        self.assertEqual((MOST_POINTS, MOST_KINDS, MOST_COUNT), (32, 10, 10 ** 12))


class Schemes(unittest.TestCase):

    def test_beside(self):
        made = 0
        for one, other in product(SMALL, repeat=2):
            if limits(self, beside, one.size * other.size, (one.most + 1) * (other.most + 1) - 1, one, other):
                made += 1
                found = beside(one, other)
                self.assertEqual(found.table, samples.beside(one.table, other.table))
                self.assertEqual(beside_counts(counts_of(one), counts_of(other)), counts_of(found))
                for x, y in [(0, 0), (one.size - 1, 0), (0, other.size - 1), (one.size - 1, other.size - 1)]:
                    self.assertEqual(found.kind_of(0, x * other.size + y), one.kind_of(0, x) * (other.most + 1) + other.kind_of(0, y))
        self.assertGreater(made, 60)

    def test_inside(self):
        made = 0
        for one, other in product(SMALL, repeat=2):
            if limits(self, inside, one.size * other.size, one.most + other.most, one, other):
                made += 1
                found = inside(one, other)
                self.assertEqual(found.table, samples.inside(one.table, other.table))
                self.assertEqual(inside_counts(counts_of(one), counts_of(other)), counts_of(found))
                self.assertIs(is_closed(counts_of(found), tuple(range(one.most + 1))), True)
        self.assertGreater(made, 60)

    def test_power(self):
        made = 0
        for scheme, many in product(SMALL, range(1, 11)):
            kinds = len(types_by_hand(scheme.most, many)) - 1 if scheme.size ** many <= 32 else 0
            if limits(self, power, scheme.size ** many, kinds, scheme, many):
                made += 1
                found = power(scheme, many)
                self.assertEqual(found.table, power_by_hand(scheme, many))
                self.assertEqual(power_counts(counts_of(scheme), many), counts_of(found))
        self.assertGreater(made, 30)
        self.assertEqual(power(LONE[1], 5), Scheme.by_places(5, 2))
        self.assertEqual(power(LONE[0], 10), LONE[0])
        for scheme in SMALL[4:-1]:
            # A power of one place has the kinds in the other sequence, but for 0, as types ascend.
            names = (0, *range(scheme.most, 0, -1))
            self.assertEqual(power(scheme, 1), scheme.renumbered(names))

    def test_edges(self):
        self.assertEqual(beside(LONE[3], LONE[7]).size, 32)
        self.assertEqual(error_of(beside, Scheme.by_ring(5), Scheme.by_ring(6)).limit, 10)
        self.assertEqual(error_of(beside, Scheme.by_ring(6), Scheme.by_ring(6)).limit, 32)
        self.assertEqual(error_of(beside, CUBE, Scheme.by_ring(4)).limit, 10)
        self.assertEqual(beside(Scheme.by_ring(5), Scheme.by_ring(5)).most, 8)
        self.assertEqual(inside(Scheme.by_ring(16), LONE[1]).most, 9)
        self.assertEqual(inside(LONE[0], Scheme.by_ring(20)).most, 10)
        self.assertEqual(error_of(inside, LONE[1], Scheme.by_ring(16)), None)
        self.assertEqual(error_of(inside, Scheme.by_ring(20), LONE[1]).limit, 32)
        self.assertEqual(error_of(inside, Scheme.by_ring(17), LONE[1]).limit, 32)
        self.assertEqual(error_of(inside_counts, counts_of(Scheme.by_ring(20)), counts_of(LONE[1])).limit, 10)
        self.assertEqual(error_of(inside_counts, counts_of(Scheme.by_ring(18)), counts_of(LONE[1])), None)
        self.assertEqual(error_of(power, LONE[1], 6).limit, 32)
        self.assertEqual(error_of(power, CUBE, 2).limit, 32)
        self.assertEqual(power(Scheme.by_ring(5), 2).most, 5)
        self.assertEqual(error_of(power, Scheme.by_ring(5), 3).limit, 32)


class Counts(unittest.TestCase):

    def test_many_counts(self):
        draw = random.Random(12)
        drawn = [counts for counts in plain_counts() if len(counts) <= 5]
        made = 0
        for _ in range(250):
            one, other = draw.choice(drawn), draw.choice(drawn)
            for call, kinds, points in [
                (beside_counts, len(one) * len(other), 0), (inside_counts, len(one) + len(other) - 1, 0)
            ]:
                if kinds > 11:
                    self.assertEqual(error_of(call, one, other).limit, 10)
                    continue
                made += 1
                found = call(one, other)
                self.assertIs(is_counts(found), True)
                self.assertEqual(points_of(found), points_of(one) * points_of(other))
        self.assertGreater(made, 200)

    def test_products_of_integers(self):
        one, other = SEVEN, TEN
        found = beside_counts(one, other)
        for (i, a), (j, b), (k, c) in product(product(range(3), repeat=2), repeat=3):
            self.assertEqual(found[3 * k + c][3 * i + a][3 * j + b], one[k][i][j] * other[c][a][b])

    def test_powers_of_counts(self):
        for counts in plain_counts():
            for many in range(1, 11):
                types = types_by_hand(len(counts) - 1, many) if len(counts) ** many <= 10 ** 5 else [()] * 12
                if len(types) > 11 and len(counts) > 2:
                    self.assertEqual(error_of(power_counts, counts, many).limit, 10)
                    break
                if max(valencies_of(counts)) ** many > 10 ** 11:
                    break
                found = power_counts(counts, many)
                self.assertIs(is_counts(found), True)
                self.assertEqual(points_of(found), points_of(counts) ** many)

    def test_coefficients(self):
        """The integer at three types, by going through all places one by one."""
        for counts, many in [(TEN, 2), (TEN, 3), (SEVEN, 2), (SEVEN, 3), (lone_counts(5), 4), (counts_of(CUBE), 2)]:
            d, types = len(counts) - 1, types_by_hand(len(counts) - 1, many)
            found = power_counts(counts, many)
            for told in types:
                places = [0] * (many - sum(told)) + [k + 1 for k, times in enumerate(told) for _ in range(times)]
                sums = {}
                for kinds in product(product(range(d + 1), repeat=2), repeat=many):
                    times = 1
                    for (i, j), k in zip(kinds, places):
                        times *= counts[k][i][j]
                    if times:
                        pair = tuple([tuple([[kind[side] for kind in kinds].count(k) for k in range(1, d + 1)]) for side in (0, 1)])
                        sums[pair] = sums.get(pair, 0) + times
                for first, second in product(types, repeat=2):
                    self.assertEqual(found[types.index(told)][types.index(first)][types.index(second)], sums.get((first, second), 0))

    def test_limits(self):
        big, most = lone_counts(10 ** 6), lone_counts(10 ** 6 + 2)
        self.assertEqual(beside_counts(big, big)[0][3][3], (10 ** 6 - 1) ** 2)
        self.assertEqual(beside_counts(lone_counts(10 ** 6 + 1), lone_counts(10 ** 6 + 1))[0][3][3], 10 ** 12)
        self.assertEqual(error_of(beside_counts, most, lone_counts(10 ** 6 + 1)).limit, 10 ** 12)
        self.assertEqual(error_of(beside_table, most, most).limit, 10 ** 12)
        self.assertEqual(power_counts(lone_counts(10 ** 4 + 1), 3)[0][3][3], 10 ** 12)
        self.assertEqual(error_of(power_counts, lone_counts(10 ** 4 + 2), 3).limit, 10 ** 12)
        self.assertEqual(error_of(power_table, lone_counts(10 ** 4 + 2), 3).limit, 10 ** 12)
        self.assertEqual(inside_counts(lone_counts(10 ** 6), lone_counts(10 ** 6 + 1))[0][2][2], 10 ** 12)
        self.assertEqual(error_of(inside_counts, lone_counts(10 ** 6), lone_counts(10 ** 6 + 2)).limit, 10 ** 12)
        self.assertEqual(error_of(inside_table, lone_counts(10 ** 6 + 1), lone_counts(10 ** 6 + 1)).limit, 10 ** 12)
        self.assertEqual(inside_counts(ONLY, TEN), TEN)
        self.assertEqual(inside_counts(TEN, ONLY), TEN)
        self.assertEqual(beside_counts(ONLY, TEN), TEN)
        self.assertEqual(beside_counts(TEN, ONLY), TEN)
        self.assertEqual(power_counts(ONLY, 10), ONLY)
        self.assertEqual(len(power_counts(lone_counts(2), 10)), 11)
        # Too many kinds come ahead of too great integers, and both ahead of what the eigenvalues are.
        ring, wide = counts_of(Scheme.by_ring(5)), counts_of(Scheme.by_ring(7))
        self.assertEqual(error_of(beside_table, ring, wide).limit, 10)
        self.assertEqual(error_of(power_table, wide, 3).limit, 10)
        for error in [
            error_of(beside_table, ring, TEN), error_of(beside_table, TEN, ring), error_of(inside_table, ring, TEN), error_of(inside_table, TEN, ring),
            error_of(power_table, ring, 1), error_of(power_table, ring, 3),
        ]:
            self.assertEqual((type(error), error.reason), (Refused, ("eigenvalues",)))

    def test_types(self):
        for most in range(11):
            for many in range(1, 11):
                if most == 0 or many == 1 or (many + 1) ** most < 20000:
                    wanted = types_by_hand(most, many) if (many + 1) ** most < 20000 else None
                    error = error_of(power_types, most, many)
                    if wanted and len(wanted) > 11:
                        self.assertEqual((type(error), error.limit), (TooMany, 10))
                    elif wanted:
                        self.assertEqual(power_types(most, many), tuple(wanted))
        self.assertEqual(power_types(0, 3), ((),))
        self.assertEqual(len(power_types(10, 1)), 11)
        self.assertEqual(len(power_types(1, 10)), 11)
        self.assertEqual(error_of(power_types, 10, 2).limit, 10)
        self.assertEqual(error_of(power_types, 10, 10).limit, 10)
        self.assertEqual(error_of(power_types, 11, 0).given, 11)
        self.assertEqual(error_of(power_types, 10, 11).given, 11)


class FirstTables(unittest.TestCase):

    def test_tables(self):
        draw = random.Random(4)
        drawn = [counts for counts in plain_counts() if len(counts) <= 6]
        made = 0
        for _ in range(300):
            one, other = draw.choice(drawn), draw.choice(drawn)
            for told, call, kinds in [(beside_table, beside_counts, len(one) * len(other)), (inside_table, inside_counts, len(one) + len(other) - 1)]:
                if kinds <= 11:
                    made += 1
                    if not has_integer_values(one) or not has_integer_values(other):
                        self.assertEqual(error_of(told, one, other).reason, ("eigenvalues",))
                    else:
                        self.assertIs(is_first_table(call(one, other), told(one, other)), True)
        self.assertGreater(made, 200)

    def test_rows(self):
        one, other = counts_of(CUBE), counts_of(Scheme.lone(3))
        left, right = first_table(one), first_table(other)
        rows = [tuple([a * b for a in r for b in s]) for r in left for s in right]
        self.assertEqual(beside_table(one, other), tuple(sorted(rows, reverse=True)))
        rows = [left[0] + tuple([8 * entry for entry in s[1:]]) for s in right] + [r + (0,) for r in left[1:]]
        self.assertEqual(inside_table(one, other), tuple(sorted(rows, reverse=True)))
        self.assertEqual(rows_by_search(inside_counts(one, other)), inside_table(one, other))

    def test_powers(self):
        made = 0
        for counts in plain_counts():
            for many in range(1, 11):
                if isinstance(error_of(power_counts, counts, many), TooMany):
                    break
                made += 1
                if has_integer_values(counts):
                    self.assertIs(is_first_table(power_counts(counts, many), power_table(counts, many)), True)
                else:
                    self.assertEqual(error_of(power_table, counts, many).reason, ("eigenvalues",))
        self.assertGreater(made, 60)
        self.assertEqual(power_table(counts_of(Scheme.lone(2)), 3), first_table(counts_of(CUBE)))


class Errors(unittest.TestCase):

    def test_kinds_of_arguments(self):
        three = counts_of(LONE[2])
        for call in [beside, inside]:
            self.assertIs(type(error_of(call, three, CUBE)), InvalidScheme)
            self.assertIs(type(error_of(call, CUBE, three)), InvalidScheme)
        for call in [beside_counts, beside_table, inside_counts, inside_table]:
            self.assertIs(type(error_of(call, CUBE, three)), InvalidCounts)
            self.assertIs(type(error_of(call, three, CUBE)), InvalidCounts)
            self.assertIs(type(error_of(call, three, CUBE.table)), InvalidCounts)
        self.assertIs(type(error_of(beside_counts, CUBE, PAIRS)), InvalidCounts)
        self.assertIs(type(error_of(power, three, 11)), InvalidScheme)
        self.assertIs(type(error_of(power_counts, CUBE, 2)), InvalidCounts)
        for call, first in [(power, CUBE), (power_counts, three), (power_table, three)]:
            for many in [0, 11, -1, True, None, (2, 1), "2"]:
                error = error_of(call, first, many)
                self.assertIs(type(error), InvalidNumber)
                self.assertIs(error.given, many)

    def test_schemes_in_the_example(self):
        """The example of the document passes two schemes to `inside_counts`."""
        self.assertEqual(inside_counts(CUBE, LONE[1]), inside_counts(counts_of(CUBE), counts_of(LONE[1])))
        self.assertEqual(error_of(inside_counts, Scheme.by_ring(20), LONE[1]).limit, 10)

    def test_not_true(self):
        one, other = counts_of(LONE[1]), counts_of(LONE[2])
        self.assertIs(counts_order(inside_counts(one, other), inside_counts(other, one)), None)
        self.assertNotEqual(power(LONE[1], 2).most, beside(LONE[1], LONE[1]).most)
        self.assertIs(counts_fault(inside_counts(one, other)), None)


if __name__ == "__main__":
    unittest.main()
