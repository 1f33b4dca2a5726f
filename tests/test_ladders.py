"""Points 8.1 to 8.7."""

import random
import unittest
from fractions import Fraction
from itertools import permutations, product
from math import comb

from tests.samples import ARRAYS, CUBE, PAIRS, SEVEN, TEN, integer_counts, plain_counts, schemes
from tests.support import as_own, as_python, error_of, run_examples
from thirdcounts.base.polys import poly_value
from thirdcounts.eigen.krein import krein_table
from thirdcounts.eigen.spaces import first_table, second_table
from thirdcounts.errors import InvalidCounts, InvalidOperation, InvalidOrder, Refused, TooMany
from thirdcounts.ladder import ladders as module
from thirdcounts.ladder.ladders import (
    array_fault, array_of, counts_of_array, is_array, is_kind_ladder, is_space_ladder, kind_ladders, ladder_polys, space_array,
    space_ladders
)
from thirdcounts.pairs.counts import counts_of, counts_renumbered, is_counts, lone_counts
from thirdcounts.pairs.schemes import Scheme
from thirdcounts.webs.walks import Web

EXAMPLES = """
>>> FIVE = counts_of(PAIRS)
>>> [kind_ladders(FIVE), array_of(FIVE, (0, 1, 2)), array_of(FIVE, (0, 2, 1)), kind_ladders(counts_of(CUBE)), is_kind_ladder(FIVE, (0, 2, 1))]
[((0, 1, 2), (0, 2, 1)), ((6, 2), (1, 4)), ((3, 2), (1, 1)), ((0, 1, 2, 3),), True]
>>> [space_ladders(FIVE), space_array(FIVE, (0, 1, 2))]
[((0, 1, 2), (0, 2, 1)), (((4, 1), (25, 9)), ((1, 1), (20, 9)))]
>>> ladder_polys(((3, 2), (1, 1)))[2:]
(((-3, 1), (0, 1), (1, 1)), ((6, 1), (-5, 1), (-2, 1), (1, 1)))
>>> [array_fault(array) for array in (((3, 2), (1, 1)), ((3, 2), (2, 2)), ((2, 2), (1, 1)), ((4, 2), (1, 5)), ((5, 2), (1, 4)))]
[None, 'first', 'steps', 'rest', 'valency']
>>> [array_fault(((4, 1), (1, 2))), counts_of_array(((3,), (1,)))]
['thirds', (((1, 0), (0, 3)), ((0, 1), (1, 2)))]
>>> array_of(FIVE, (0, 1, 1))
raises InvalidOrder
"""

RING = counts_of(Scheme.by_ring(5))


def is_ladder_by_hand(table, order):
    """Whether the order is a ladder, by the numbers p(e, order[i]; order[j])."""
    if len(order) == 1:
        return True
    for i, j in product(range(len(order)), repeat=2):
        entry = table[order[j]][order[1]][order[i]]
        if abs(i - j) > 1 and entry != 0 or abs(i - j) == 1 and entry == 0:
            return False
    return True


def orders(size):
    return [(0, *rest) for rest in permutations(range(1, size))]


def in_python(table):
    return [[[as_python(entry) for entry in row] for row in square] for square in table]


def times(one, other):
    found = [Fraction(0)] * (len(one) + len(other) - 1)
    for i, a in enumerate(one):
        for j, b in enumerate(other):
            found[i + j] += a * b
    return found


def polys_by_hand(array):
    """The ladder polynomials as lists of Python's own fractions."""
    b, c = array
    d = len(b)
    rests = [(b[0] if b else 0) - (b[i] if i < d else 0) - (c[i - 1] if i else 0) for i in range(d + 1)]
    found = [[Fraction(1)], [Fraction(0), Fraction(1)]]
    for i in range(1, d + 1):
        risen = times(found[i], [Fraction(-rests[i]), Fraction(1)])
        low = found[i - 1] + [Fraction(0)] * (len(risen) - len(found[i - 1]))
        under = c[i] if i < d else 1
        found.append([(high - b[i - 1] * entry) / under for high, entry in zip(risen, low)])
    return found


def numbers_by_hand(array):
    """The numbers p(i, j; k) at [i][j][k]: each product, with a rest by the last polynomial, as a sum of the others."""
    polys = polys_by_hand(array)
    last, size = polys[-1], len(polys) - 1
    table = []
    for i, j in product(range(size), repeat=2):
        left = times(polys[i], polys[j])
        while len(left) > size:
            factor = left[-1] / last[-1]
            shift = len(left) - len(last)
            left = [entry - (factor * last[at - shift] if at >= shift else 0) for at, entry in enumerate(left)][:-1]
        left += [Fraction(0)] * (size - len(left))
        row = [Fraction(0)] * size
        for k in reversed(range(size)):
            row[k] = left[k] / polys[k][-1]
            left = [entry - (row[k] * polys[k][at] if at <= k else 0) for at, entry in enumerate(left)]
        table.append(row)
    return [table[i * size:(i + 1) * size] for i in range(size)]


def fault_by_hand(array):
    b, c = array
    d = len(b)
    if d and c[0] != 1:
        return "first"
    if any(b[i] > b[i - 1] for i in range(1, d)) or any(c[i] < c[i - 1] for i in range(1, d)) or d > 1 and b[1] == b[0]:
        return "steps"
    if d and any(b[0] - (b[i] if i < d else 0) - (c[i - 1] if i else 0) < 0 for i in range(d + 1)):
        return "rest"
    v = [Fraction(1)]
    for i in range(d):
        v.append(v[i] * b[i] / c[i])
    if any(entry.denominator != 1 for entry in v):
        return "valency"
    if any(entry.denominator != 1 or entry < 0 for rows in numbers_by_hand(array) for row in rows for entry in row):
        return "thirds"
    return None


class Examples(unittest.TestCase):

    def test_examples(self):
        self.assertEqual(run_examples(self, EXAMPLES, dict(globals())), 6)

    def test_constants(self):
        self.assertEqual((module.MOST_ENTRY, module.MOST_COUNT), (10 ** 6, 10 ** 12))


class KindLadders(unittest.TestCase):

    def test_all_orders(self):
        for counts in [counts for counts in plain_counts() if len(counts) <= 5]:
            right = [order for order in orders(len(counts)) if is_ladder_by_hand(counts, order)]
            self.assertEqual(kind_ladders(counts), tuple(right))
            self.assertLessEqual(len(right), max(1, len(counts) - 1))
            for order in orders(len(counts)):
                self.assertIs(is_kind_ladder(counts, order), order in right)
                if order not in right:
                    self.assertIs(type(error_of(array_of, counts, order)), InvalidOperation)

    def test_rings(self):
        for size in range(1, 21):
            counts = counts_of(Scheme.by_ring(size))
            steps = [step for step in range(1, size // 2 + 1) if not any(step % low == 0 and size % low == 0 for low in range(2, size + 1))]
            wanted = []
            for step in steps:
                seen = [min(step * many % size, -step * many % size) for many in range(size // 2 + 1)]
                wanted.append(tuple(seen))
            self.assertEqual(kind_ladders(counts), tuple(wanted or [(0,)]))

    def test_arrays_of_families(self):
        for places, letters in [(1, 5), (2, 3), (3, 2), (5, 2), (3, 3)]:
            counts = counts_of(Scheme.by_places(places, letters))
            wanted = tuple([(places - i) * (letters - 1) for i in range(places)]), tuple(range(1, places + 1))
            self.assertEqual(array_of(counts, tuple(range(places + 1))), wanted)
        for things, many in [(5, 2), (6, 3), (7, 2), (9, 1)]:
            counts = counts_of(Scheme.by_sharing(things, many))
            d = min(many, things - many)
            wanted = tuple([(many - i) * (things - many - i) for i in range(d)]), tuple([i * i for i in range(1, d + 1)])
            self.assertEqual(array_of(counts, tuple(range(d + 1))), wanted)
        self.assertEqual(array_of((((1,),),), (0,)), ((), ()))
        self.assertEqual(array_of(lone_counts(9), (0, 1)), ((8,), (1,)))

    def test_distances(self):
        for scheme in [scheme for scheme in schemes() if 1 < scheme.size <= 24]:
            for order in kind_ladders(counts_of(scheme)):
                ties = [(x, y) for x in range(scheme.size) for y in range(x + 1, scheme.size) if scheme.kind_of(x, y) == order[1]]
                web = Web(scheme.size, tuple(ties))
                for point in range(scheme.size):
                    self.assertEqual(order[web.distance(0, point)], scheme.kind_of(0, point))

    def test_polynomials_at_eigenvalues(self):
        for counts in integer_counts():
            for order in kind_ladders(counts):
                array = array_of(counts, order)
                self.assertEqual(array[0] and array[0][0], array[0] and counts[0][order[1]][order[1]])
                for i in range(1, len(order)):
                    b = array[0][i] if i < len(array[0]) else 0
                    self.assertEqual(array[0][0] - b - array[1][i - 1], counts[order[i]][order[1]][order[i]])
                if len(order) > 1:
                    polys = ladder_polys(array)
                    for row in first_table(counts):
                        self.assertEqual([(row[kind], 1) for kind in order], [poly_value(poly, row[order[1]]) for poly in polys[:-1]])
                        self.assertEqual(poly_value(polys[-1], row[order[1]]), (0, 1))
                    self.assertEqual(len({row[order[1]] for row in first_table(counts)}), len(order))


class SpaceLadders(unittest.TestCase):

    def test_all_orders(self):
        for counts in [counts for counts in integer_counts() if len(counts) <= 5]:
            table = in_python(krein_table(counts))
            right = [order for order in orders(len(counts)) if is_ladder_by_hand(table, order)]
            self.assertEqual(space_ladders(counts), tuple(right))
            for order in orders(len(counts)):
                self.assertIs(is_space_ladder(counts, order), order in right)
                if order in right:
                    self.check_array(counts, order, table)
                else:
                    self.assertIs(type(error_of(space_array, counts, order)), InvalidOperation)

    def check_array(self, counts, order, table):
        down, up = space_array(counts, order)
        for i in range(1, len(order)):
            self.assertEqual(as_python(down[i - 1]), table[order[i - 1]][order[1]][order[i]])
            self.assertEqual(as_python(up[i - 1]), table[order[i]][order[1]][order[i - 1]])
        self.assertEqual((len(down), len(up)), (len(order) - 1, len(order) - 1))
        if len(order) > 1:
            second = [[as_python(entry) for entry in row] for row in second_table(counts)]
            polys = polys_by_hand(([as_python(entry) for entry in down], [as_python(entry) for entry in up]))
            for row in second:
                for r, poly in enumerate(polys[:-1]):
                    self.assertEqual(row[order[r]], sum(entry * row[order[1]] ** at for at, entry in enumerate(poly)))
            self.assertEqual(len({row[order[1]] for row in second}), len(order))

    def test_ends(self):
        self.assertEqual(space_ladders((((1,),),)), ((0,),))
        self.assertEqual(space_array((((1,),),), (0,)), ((), ()))
        self.assertIs(is_space_ladder((((1,),),), (0,)), True)
        self.assertEqual(kind_ladders((((1,),),)), ((0,),))
        self.assertEqual(space_array(lone_counts(5), (0, 1)), (((4, 1),), ((1, 1),)))

    def test_errors(self):
        for call, *arguments in [(is_space_ladder, RING, (0, 1, 2)), (is_space_ladder, RING, 5), (space_ladders, RING), (space_array, RING, (0, 1, 2))]:
            error = error_of(call, *arguments)
            self.assertEqual((type(error), error.reason), (Refused, ("eigenvalues",)))
        self.assertIs(type(error_of(space_array, RING, (0, 1, 1))), InvalidOrder)
        self.assertIs(type(error_of(space_array, None, (0, 1, 1))), InvalidCounts)
        self.assertEqual(kind_ladders(RING), ((0, 1, 2), (0, 2, 1)))
        self.assertIs(is_kind_ladder(RING, (0, 1, 1)), False)
        # Counts without integers as eigenvalues are refused, also where the order is no ladder of spaces.
        eight = counts_of(Scheme.by_ring(8))
        self.assertIs(type(error_of(space_array, eight, (0, 2, 1, 3, 4))), Refused)
        self.assertIs(type(error_of(array_of, eight, (0, 2, 1, 3, 4))), InvalidOperation)


class Arrays(unittest.TestCase):

    def check(self, array):
        fault = fault_by_hand(array)
        self.assertEqual(array_fault(array), fault, array)
        if fault is not None:
            self.assertIs(type(error_of(counts_of_array, array)), InvalidOperation)
        polys = tuple([tuple([as_own(entry) for entry in poly]) for poly in polys_by_hand(array)])
        self.assertEqual(ladder_polys(array), polys)
        return fault

    def test_bounds(self):
        self.assertIs(is_array(((1,) * 10, (1,) * 10)), True)
        self.assertIs(is_array(((1,) * 11, (1,) * 11)), False)
        self.assertIs(is_array(((10 ** 6,), (10 ** 6,))), True)
        self.assertIs(is_array(((10 ** 6 + 1,), (1,))), False)
        self.assertIs(is_array(((1,), (0,))), False)
        self.assertEqual(ladder_polys(((), ())), (((1, 1),), ((0, 1), (1, 1))))
        self.assertEqual(counts_of_array(((), ())), (((1,),),))
        self.assertEqual([len(poly) for poly in ladder_polys(((10 ** 6,) * 10, (1,) * 10))], list(range(1, 13)))
        for array in [((10 ** 6,), (1,)), ((10 ** 6,) * 10, (1,) * 10), ((9,) * 3, (10 ** 6,) * 3), ((), ())]:
            self.check(array)

    def test_small_arrays(self):
        found = []
        for size, most in [(1, 5), (2, 5), (3, 3)]:
            for b, c in product(product(range(1, most + 1), repeat=size), repeat=2):
                found.append(self.check((b, c)))
        self.assertEqual({fault for fault in found}, {None, "first", "steps", "rest", "valency", "thirds"})

    def test_drawn_arrays(self):
        draw = random.Random(81)
        found = []
        for _ in range(400):
            size = draw.randint(2, 6)
            c = (1,) + tuple(sorted(draw.randint(1, 6) for _ in range(size - 1)))
            b = tuple(sorted([draw.randint(1, 12) for _ in range(size)], reverse=True))
            found.append(self.check((b, c)))
        self.assertGreater(found.count("thirds"), 3)
        self.assertGreater(found.count("valency"), 20)

    def test_counts(self):
        draw = random.Random(82)
        arrays = list(ARRAYS)
        for counts in plain_counts():
            arrays += [array_of(counts, order) for order in kind_ladders(counts)]
        for _ in range(300):
            k, mixed = draw.randint(3, 40), draw.randint(0, 10)
            arrays.append(((k, max(1, k - 1 - mixed)), (1, draw.randint(1, k))))
        whole = [array for array in arrays if array_fault(array) is None]
        self.assertGreater(len(whole), 100)
        for array in whole:
            counts = counts_of_array(array)
            self.assertIs(is_counts(counts), True)
            self.assertEqual(array_of(counts, tuple(range(len(counts)))), array)
            numbers = numbers_by_hand(array)
            size = range(len(counts))
            self.assertTrue(all(counts[k][i][j] == numbers[i][j][k] for i in size for j in size for k in size))

    def test_there_and_back(self):
        for counts in plain_counts():
            for order in kind_ladders(counts):
                names = tuple([order.index(kind) for kind in range(len(order))])
                self.assertEqual(counts_of_array(array_of(counts, order)), counts_renumbered(counts, names))

    def test_great_counts(self):
        top = 10 ** 6
        # All words of three letters out of 10001 have 10 ** 12 as the greatest valency: the limit itself.
        self.assertEqual(max(max(max(row) for row in square) for square in numbers_of_words(3, 10001)), 10 ** 12)
        for places, letters in [(2, 10 ** 5), (2, top // 2 + 1), (3, 10001), (3, 10002), (4, 1001), (4, 1002), (10, 2), (10, 12), (10, 17), (10, 10 ** 5)]:
            array = tuple([(places - i) * (letters - 1) for i in range(places)]), tuple(range(1, places + 1))
            self.assertIsNone(array_fault(array))
            counts = numbers_of_words(places, letters)
            if max(max(max(row) for row in square) for square in counts) > 10 ** 12:
                error = error_of(counts_of_array, array)
                self.assertEqual((type(error), error.limit), (TooMany, 10 ** 12))
            else:
                self.assertEqual(counts_of_array(array), counts)
        self.assertIs(type(error_of(counts_of_array, ((top, top), (1, 1)))), InvalidOperation)

    def test_not_true(self):
        counts = counts_of(PAIRS)
        one, other = kind_ladders(counts)
        self.assertNotEqual(array_of(counts, one), array_of(counts, other))
        # The kind 2 of SEVEN would part seven points into threes, and its array has no fault.
        self.assertEqual([array_of(SEVEN, order) for order in kind_ladders(SEVEN)], [((4, 2), (1, 4))])
        self.assertIsNone(array_fault(((4, 2), (1, 4))))
        self.assertEqual(kind_ladders(counts_of(CUBE)), ((0, 1, 2, 3),))
        self.assertEqual(kind_ladders(TEN), ((0, 1, 2), (0, 2, 1)))


def numbers_of_words(places, letters):
    """The counts of words, by the places at which a third word is as the first, as the second, or as neither one."""
    def number(i, j, k):
        total = 0
        for apart in range(places - k + 1):
            first, second = apart + k - i, apart + k - j
            if first >= 0 and second >= 0 and first + second <= k:
                ways = comb(places - k, apart) * comb(k, first) * comb(k - first, second)
                total += ways * (letters - 1) ** apart * (letters - 2) ** (k - first - second)
        return total
    size = range(places + 1)
    return tuple([tuple([tuple([number(i, j, k) for j in size]) for i in size]) for k in size])


if __name__ == "__main__":
    unittest.main()
