"""Points 10.1 to 10.7."""

import random
import unittest
from fractions import Fraction
from itertools import combinations, product
from math import isqrt

from tests.samples import CUBE, FIVE_RING, FOUR, PAIRS, SQUARE, TWISTED, all_webs, schemes, tie_table, web_of, webs
from tests.support import error_of, run_examples
from thirdcounts.base.tables import determinant, idle_table, table_product, table_scaled, table_sum
from thirdcounts.errors import InvalidLot, InvalidNumber, InvalidOperation, InvalidWeb, Refused
from thirdcounts.pairs.schemes import Scheme
from thirdcounts.twokinds import tuples as module
from thirdcounts.twokinds.tuples import (
    is_half, is_switching, left_tuple, odd_number, odd_triples, signs_table, switched, switching_points, tuple_fault, tuple_of_web,
    tuple_values, tuples, two_scheme
)
from thirdcounts.webs.walks import Web, web_of_kinds

EXAMPLES = """
>>> [tuple_fault(10, 3, 0, 1), tuple_fault(28, 9, 0, 4), tuple_fault(50, 21, 4, 12), tuple_fault(21, 10, 4, 5), tuple_fault(9, 4, 2, 1), tuple_fault(7, 3, 1, 1)]
[None, 'krein', 'absolute', 'squares', 'values', 'ties']
>>> [tuple_values(10, 3, 0, 1), left_tuple(10, 3, 0, 1), is_half(13, 6, 2, 3), len(tuples(50)), tuples(5)]
[((1, 5), (-2, 4)), (10, 6, 3, 4), True, 270, ((4, 1, 0, 0), (4, 2, 0, 2), (5, 2, 0, 1))]
>>> RING, FOUR = Web(5, ((0, 1), (0, 4), (1, 2), (2, 3), (3, 4))), Web(4, ((0, 1), (2, 3)))
>>> [tuple_of_web(RING), odd_number(RING), switched(FOUR, (0,)).ties, odd_triples(FOUR), odd_number(FOUR), is_switching(FOUR, switched(FOUR, (0,)), (1, 2, 3))]
[(5, 2, 0, 1), None, ((0, 2), (0, 3), (2, 3)), ((0, 1, 2), (0, 1, 3), (0, 2, 3), (1, 2, 3)), 2, True]
>>> tuple_values(5, 2, 0, 1)
raises Refused(('half',))
"""

WORDS = [None, "range", "count", "ties", "squares", "values", "krein", "absolute", "half"]


def left_by_hand(n, k, l, m):
    return n, n - k - 1, n - 2 - 2 * k + m, n - 2 * k + l


def fault_by_hand(n, k, l, m):
    """The fault of a tuple by the conditions in their order, `half` for a half tuple without one."""
    if not (1 <= k <= n - 2 and l <= k - 1 and m <= k and min(left_by_hand(n, k, l, m)[2:]) >= 0):
        return "range"
    if k * (k - l - 1) != (n - k - 1) * m:
        return "count"
    if n * k % 2 or n * k * l % 6:
        return "ties"
    D, a = (l - m) ** 2 + 4 * (k - m), 2 * k + (n - 1) * (l - m)
    roots = [r for r in range(1, D + 1) if r * r == D]
    if a == 0 and not roots:
        return "half" if any(x * x + y * y == n for x in range(15) for y in range(15)) else "squares"
    if not roots or a % roots[0]:
        return "values"
    r = roots[0]
    f, g = (n - 1 - Fraction(a, r)) / 2, (n - 1 + Fraction(a, r)) / 2
    if f.denominator > 1 or g.denominator > 1 or f < 1 or g < 1:
        return "values"
    t, u = Fraction(l - m + r, 2), Fraction(l - m - r, 2)
    if (t + 1) * (k + t + 2 * t * u) > (k + t) * (u + 1) ** 2 or (u + 1) * (k + u + 2 * t * u) > (k + u) * (t + 1) ** 2:
        return "krein"
    if m not in (0, k) and (2 * n > f * (f + 3) or 2 * n > g * (g + 3)):
        return "absolute"
    return None


def tuple_by_hand(web):
    """The tuple of a web of two kinds, by a look at all pairs."""
    table, size = tie_table(web), range(web.size)
    near, far = set(), set()
    for x, y in combinations(size, 2):
        (near if table[x][y] else far).add(sum(a * b for a, b in zip(table[x], table[y])))
    ties = {sum(row) for row in table}
    if len(ties) != 1 or len(near) != 1 or len(far) != 1:
        return None
    return (web.size, *ties, *near, *far)


def two_kinds():
    """Webs of two kinds."""
    found = []
    for scheme in list(schemes()) + [Scheme(TWISTED)]:
        if scheme.most == 2 and scheme.size <= 24:
            found += [web_of_kinds(scheme, (1,)), web_of_kinds(scheme, (2,))]
    squares = {x * x % 13 for x in range(1, 13)}
    found.append(web_of(13, [(x, y) for x, y in combinations(range(13), 2) if y - x in squares]))
    found.append(web_of(17, [(x, y) for x, y in combinations(range(17), 2) if y - x in {x * x % 17 for x in range(1, 17)}]))
    return found


def switched_by_hand(web, points):
    ties = set(web.ties)
    pairs = [pair for pair in combinations(range(web.size), 2) if (pair in ties) != ((pair[0] in points) != (pair[1] in points))]
    return Web(web.size, tuple(pairs))


def odd_by_hand(web):
    ties = set(web.ties)
    return tuple([triple for triple in combinations(range(web.size), 3) if len([p for p in combinations(triple, 2) if p in ties]) in (1, 3)])


class Examples(unittest.TestCase):

    def test_examples(self):
        self.assertEqual(run_examples(self, EXAMPLES, dict(globals())), 4)

    def test_constants(self):
        self.assertEqual((module.MOST_TUPLE, module.MOST_LISTED), (200, 100))


class Tuples(unittest.TestCase):

    def check(self, told):
        wanted = fault_by_hand(*told)
        fault = None if wanted == "half" else wanted
        self.assertEqual(tuple_fault(*told), fault, told)
        self.assertIs(is_half(*told), wanted == "half")
        if fault == "range":
            self.assertIs(type(error_of(left_tuple, *told)), InvalidOperation)
        else:
            left = left_by_hand(*told)
            self.assertEqual(left_tuple(*told), left)
            self.assertEqual(left_tuple(*left), told)
            self.assertIs(tuple_fault(*left), fault)
            self.assertIs(is_half(*left), wanted == "half")
        if wanted is not None:
            error = error_of(tuple_values, *told)
            self.assertEqual((type(error), error.reason), (Refused, (wanted,)))
        else:
            n, k, l, m = told
            (t, f), (u, g) = tuple_values(*told)
            self.assertEqual(1 + f + g, n)
            self.assertEqual(k + f * t + g * u, 0)
            self.assertTrue(all(value * value == (l - m) * value + k - m for value in (t, u)) and t > u)
            self.assertTrue(all(isinstance(value, int) for value in (t, f, u, g)))
        if wanted == "half":
            m = told[3]
            self.assertEqual(told, (4 * m + 1, 2 * m, m - 1, m))
        return wanted

    def test_all_small_tuples(self):
        found = {self.check(told) for told in product(range(13), range(12), range(8), range(8))}
        self.assertLessEqual({"range", "count", "ties", "values", "half", None}, found)

    def test_counted_tuples(self):
        """All tuples to 200 points that keep the first two conditions, or nearly so, among drawn ones."""
        draw, found = random.Random(101), []
        for _ in range(6000):
            n = draw.randint(3, 200)
            k = draw.randint(1, n - 2)
            l = draw.randint(0, k - 1)
            m = k * (k - l - 1) // (n - k - 1)
            if m <= 200:
                found.append(self.check((n, k, l, m)))
        for word in ["range", "count", "ties", "values"]:
            self.assertIn(word, found)

    def test_each_word(self):
        found = {}
        for n in list(range(3, 101)) + list(range(105, 201, 5)) + [154]:
            for k in range(1, n - 1):
                for l in range(k):
                    top, bottom = k * (k - l - 1), n - k - 1
                    if top % bottom == 0 and top // bottom <= k and min(left_by_hand(n, k, l, top // bottom)) >= 0:
                        told = n, k, l, top // bottom
                        wanted = self.check(told)
                        found.setdefault(wanted, []).append(told)
        self.assertEqual(set(found), set(WORDS) - {"range", "count"})
        right = sorted([told for told in found[None] + found["half"] if told[0] <= 100])
        for most in range(0, 101, 5):
            self.assertEqual(tuples(most), tuple([told for told in right if told[0] <= most]))
        self.assertEqual([len(tuples(most)) for most in (0, 1, 2, 3, 4, 50)], [0, 0, 0, 0, 2, 270])

    def test_half_tuples(self):
        for m in range(1, 50):
            told = 4 * m + 1, 2 * m, m - 1, m
            root = isqrt(told[0])
            if root * root == told[0]:
                self.assertIs(is_half(*told), False)
                self.assertIsNone(tuple_fault(*told))
            else:
                self.check(told)
        self.assertEqual([m for m in range(1, 12) if is_half(4 * m + 1, 2 * m, m - 1, m)], [1, 3, 4, 7, 9, 10, 11])

    def test_bounds(self):
        self.assertEqual(tuple_fault(0, 0, 0, 0), "range")
        self.assertEqual(tuple_fault(200, 200, 200, 200), "range")
        self.assertIsNone(tuple_fault(200, 100, 0, 100))
        for call in (tuple_fault, is_half, left_tuple, tuple_values):
            for at, value in product(range(4), (-1, 201)):
                told = [200] * at + [value] + [-5] * (3 - at)
                error = error_of(call, *told)
                self.assertEqual((type(error), error.given), (InvalidNumber, value))
        for most in (-1, 101):
            self.assertEqual(error_of(tuples, most).given, most)


class TwoKinds(unittest.TestCase):

    def test_webs_of_two_kinds(self):
        self.assertGreater(len(two_kinds()), 15)
        for web in two_kinds():
            told = tuple_of_web(web)
            self.assertEqual(told, tuple_by_hand(web))
            self.assertIsNone(tuple_fault(*told))
            n, k, l, m = told
            self.assertEqual(k * (k - l - 1), (n - k - 1) * m)
            ties = set(web.ties)
            other = Web(n, tuple([pair for pair in combinations(range(n), 2) if pair not in ties]))
            self.assertEqual(tuple_of_web(other), left_tuple(*told))
            scheme = two_scheme(web)
            self.assertEqual((scheme.valencies, scheme.number(1, 1, 1), scheme.number(1, 1, 2)), ((1, k, n - k - 1), l, m))
            self.assertEqual(web_of_kinds(scheme, (1,)), web)
            self.assertEqual(odd_number(web) is not None, n == 2 * (2 * k - l - m))

    def test_all_webs(self):
        found = 0
        for web in webs():
            told = tuple_by_hand(web)
            self.assertEqual(tuple_of_web(web), told)
            if told is None:
                self.assertIs(type(error_of(two_scheme, web)), InvalidOperation)
            else:
                found += 1
                table = tie_table(web)
                wanted = tuple([tuple([0 if x == y else 2 - table[x][y] for y in range(web.size)]) for x in range(web.size)])
                self.assertEqual(two_scheme(web).table, wanted)
        self.assertGreater(found, 5)
        for web in [Web(1, ()), Web(2, ()), Web(2, ((0, 1),)), Web(5, ()), Web(3, ((0, 1), (0, 2), (1, 2))), Web(3, ((0, 1),))]:
            self.assertIsNone(tuple_of_web(web))

    def test_known_tuples(self):
        self.assertEqual(tuple_of_web(web_of_kinds(PAIRS, (2,))), (10, 3, 0, 1))
        self.assertEqual(tuple_of_web(web_of_kinds(SQUARE, (1,))), (9, 4, 1, 2))
        self.assertIsNone(tuple_of_web(web_of_kinds(CUBE, (1,))))
        self.assertEqual(tuple_values(9, 4, 1, 2), ((1, 4), (-2, 4)))
        self.assertEqual(two_scheme(web_of_kinds(PAIRS, (1,))), PAIRS)


class Switching(unittest.TestCase):

    def test_switched(self):
        draw = random.Random(102)
        for web in webs():
            points = tuple([point for point in range(web.size) if draw.random() < 0.5])
            other = switched(web, points)
            self.assertEqual(other, switched_by_hand(web, points))
            self.assertEqual(odd_triples(other), odd_triples(web))
            self.assertEqual(switched(other, points), web)
            rest = tuple([point for point in range(web.size) if point not in points])
            self.assertEqual(switched(web, rest), other)
            self.assertEqual(determinant(signs_table(other)), determinant(signs_table(web)))
            self.assertIs(is_switching(web, other, points), True)
            self.assertIs(is_switching(web, other, rest), True)
            found = switching_points(web, other)
            self.assertIn(found, (points, rest))
            self.assertEqual(switched(web, found), other)
        for points in [(0, 5), (-1,), (1, 0), (1, 1), [0], None, (True,)]:
            self.assertIs(type(error_of(switched, FIVE_RING, points)), InvalidLot)
        self.assertEqual(switched(FIVE_RING, ()), FIVE_RING)
        self.assertEqual(switched(FIVE_RING, (0, 1, 2, 3, 4)), FIVE_RING)

    def test_all_pairs_of_webs(self):
        for size in range(1, 5):
            some = list(all_webs(size))
            for one, other in product(some, repeat=2):
                subsets = [points for many in range(size + 1) for points in combinations(range(size), many)]
                right = [points for points in subsets if switched_by_hand(one, points) == other]
                self.assertIn(len(right), (0, 2))
                self.assertIs(odd_by_hand(one) == odd_by_hand(other), bool(right))
                self.assertIn(switching_points(one, other), right or [None])
                for points in subsets[::3] + right:
                    self.assertIs(is_switching(one, other, points), points in right)

    def test_errors(self):
        for call in (switching_points, is_switching):
            more = [()] if call is is_switching else []
            self.assertIs(type(error_of(call, FIVE_RING, FOUR, *more)), InvalidOperation)
            self.assertIs(type(error_of(call, None, FOUR, *more)), InvalidWeb)
            self.assertIs(type(error_of(call, FIVE_RING, None, *more)), InvalidWeb)
        for value in [(0, 5), (-1, 0), [0], (1, 0), (0, 0), (True,), None, 0, (-1,)]:
            self.assertIs(is_switching(FIVE_RING, switched(FIVE_RING, (0,)), value), False)
        self.assertIs(is_switching(FIVE_RING, switched(FIVE_RING, (0, 1)), (False, 1)), False)

    def test_odd_triples(self):
        for web in webs():
            odd = odd_by_hand(web)
            self.assertEqual(odd_triples(web), odd)
            for four in combinations(range(web.size), 4):
                self.assertEqual(len([triple for triple in combinations(four, 3) if triple in odd]) % 2, 0)
            numbers = {len([triple for triple in odd if set(pair) <= set(triple)]) for pair in combinations(range(web.size), 2)}
            self.assertEqual(odd_number(web), min(numbers) if len(numbers) == 1 else None)
        self.assertIsNone(odd_number(Web(1, ())))
        self.assertEqual(odd_number(Web(2, ())), 0)
        self.assertEqual(odd_number(Web(2, ((0, 1),))), 0)
        self.assertEqual(len(odd_triples(Web(24, tuple(combinations(range(24), 2))))), 2024)

    def test_signs(self):
        regular = 0
        for web in list(webs()) + two_kinds():
            table = tie_table(web)
            signs = signs_table(web)
            self.assertEqual(signs, tuple([tuple([(0 if x == y else 1 - 2 * table[x][y], 1) for y in range(web.size)]) for x in range(web.size)]))
            number = odd_number(web)
            if number is not None:
                regular += 1
                wanted = table_sum(table_scaled(idle_table(web.size), web.size - 1), table_scaled(signs, web.size - 2 - 2 * number))
                self.assertEqual(table_product(signs, signs), wanted)
        self.assertGreater(regular, 20)

    def test_not_true(self):
        other = switched(FOUR, (0,))
        self.assertEqual(odd_number(other), 2)
        self.assertIsNone(tuple_of_web(other))


if __name__ == "__main__":
    unittest.main()
