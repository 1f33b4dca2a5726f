"""Points 9.1 to 9.7, and 0.19."""

import random
import unittest
from fractions import Fraction
from itertools import combinations, product

from tests.samples import CUBE, FIVE_RING, PAIRS, PRISM, SQUARE, STAR, all_webs, drawn_web, schemes, tie_table, turned_web, web_of, webs
from tests.support import as_own, as_python, error_of, run_examples
from thirdcounts.errors import InvalidKinds, InvalidNumber, InvalidOperation, InvalidScheme, InvalidWeb, TooMany
from thirdcounts.pairs.schemes import Scheme
from thirdcounts.webs import walks as module
from thirdcounts.webs.walks import (
    Web, distance_scheme, excess, is_distance_scheme, least_poly_of_web, mean_far, moments, ones_poly, walk_polys, web_of_kinds
)

EXAMPLES = """
>>> FIVE = Web(5, ((0, 1), (0, 4), (1, 2), (2, 3), (3, 4)))
>>> PRISM = Web(6, ((0, 1), (0, 2), (0, 3), (1, 2), (1, 4), (2, 5), (3, 4), (3, 5), (4, 5)))
>>> [moments(PRISM, 5), least_poly_of_web(FIVE)]
[((1, 1), (0, 1), (3, 1), (2, 1), (19, 1), (30, 1)), ((2, 1), (-3, 1), (-1, 1), (1, 1))]
>>> [walk_polys(FIVE), ones_poly(FIVE), ones_poly(Web(3, ((0, 1),)))]
[(((1, 1),), ((0, 1), (1, 1)), ((-2, 1), (0, 1), (1, 1))), ((-1, 1), (1, 1), (1, 1)), None]
>>> [excess(FIVE), mean_far(FIVE), excess(PRISM), mean_far(PRISM), is_distance_scheme(FIVE), distance_scheme(PRISM)]
[(2, (2, 1)), (2, 1), (3, (2, 13)), (0, 1), True, None]
>>> [PRISM.distance(0, 5), PRISM.walks(0, 5, 2), Web(2, ()).distance(0, 1), FIVE.valencies, str(PRISM)]
[2, 2, None, (2, 2, 2, 2, 2), 'web of 6 points, 9 ties']
>>> excess(Web(2, ()))
raises InvalidOperation
"""


def times(one, other):
    columns = list(zip(*other))
    return [[sum(a * b for a, b in zip(row, column) if a and b) for column in columns] for row in one]


def powers(web, most):
    found = [[[int(x == y) for y in range(web.size)] for x in range(web.size)]]
    for _ in range(most):
        found.append(times(found[-1], tie_table(web)))
    return found


def distances_by_hand(web):
    """The distances by the shortest way over each point in turn, `None` where there is no walk."""
    size, far = range(web.size), 99
    found = [[0 if x == y else 1 if tie_table(web)[x][y] else far for y in size] for x in size]
    for z, x, y in product(size, repeat=3):
        found[x][y] = min(found[x][y], found[x][z] + found[z][y])
    return [[entry if entry < far else None for entry in row] for row in found]


def at_ties(poly, web):
    """The polynomial of the tie table."""
    total = [[Fraction(0)] * web.size for _ in range(web.size)]
    for entry, power in zip(poly, powers(web, len(poly))):
        total = [[a + as_python(entry) * b for a, b in zip(*rows)] for rows in zip(total, power)]
    return total


def rank(rows):
    left, found = [[Fraction(entry) for entry in row] for row in rows], 0
    for column in range(len(rows[0])):
        leads = [row for row in left if row[column]]
        if leads:
            found += 1
            lead = leads[0]
            left = [[a - row[column] / lead[column] * b for a, b in zip(row, lead)] for row in left if row is not lead]
    return found


def pairing(one, other, told):
    return sum(as_python(a) * as_python(b) * as_python(told[i + j]) for i, a in enumerate(one) for j, b in enumerate(other))


def thirds_are_equal(table):
    """Whether pairs of one entry have equal thirds, by a look at all points."""
    size, found = range(len(table)), {}
    for x, y in product(size, repeat=2):
        told = {}
        for z in size:
            key = table[x][z], table[z][y]
            told[key] = told.get(key, 0) + 1
        if found.setdefault(table[x][y], told) != told:
            return False
    return True


class Examples(unittest.TestCase):

    def test_examples(self):
        self.assertEqual(run_examples(self, EXAMPLES, dict(globals())), 5)

    def test_constants(self):
        self.assertEqual((module.MAX_POINTS, module.MOST_STEPS, module.MOST_DISTANCE), (24, 60, 10))


class Webs(unittest.TestCase):

    def test_properties(self):
        for web in webs():
            ties = [sum(row) for row in tie_table(web)]
            self.assertEqual(web.valencies, tuple(ties))
            self.assertIs(web.is_regular, len(set(ties)) == 1)
            self.assertIs(web.is_joined, not any(entry is None for row in distances_by_hand(web) for entry in row))
            self.assertEqual(str(web), f"web of {web.size} points, {len(web.ties)} ties")
            again = Web(web.size, web.ties)
            self.assertIs(again == web, True)
            self.assertIs(again != web, False)
            self.assertEqual((again.size, again.ties), (web.size, web.ties))

    def test_unlike_webs(self):
        some = list(all_webs(3)) + list(all_webs(2)) + list(all_webs(1))
        for one, other in product(enumerate(some), repeat=2):
            self.assertIs(one[1] == other[1], one[0] == other[0])
            self.assertIs(one[1] != other[1], one[0] != other[0])

    def test_bounds(self):
        full = tuple(combinations(range(24), 2))
        self.assertEqual(Web(24, full).valencies, (23,) * 24)
        self.assertEqual(Web(1, ()).ties, ())
        for size in (0, 25):
            self.assertEqual((type(error_of(Web, size, ())), error_of(Web, size, ()).given), (InvalidNumber, size))
        for size, ties in [(1, ((0, 1),)), (24, ((0, 24),)), (2, ((0, 1), (0, 1))), (3, ((1, 2), (0, 1))), (3, ((2, 1),)), (3, ((1, 1),))]:
            self.assertIs(type(error_of(Web, size, ties)), InvalidWeb)
        self.assertIs(type(error_of(Web, 0, None)), InvalidNumber)

    def test_distances(self):
        for web in webs():
            told = distances_by_hand(web)
            for x, y in product(range(web.size), repeat=2):
                self.assertEqual(web.distance(x, y), told[x][y])
        path = web_of(24, [(x, x + 1) for x in range(23)])
        self.assertEqual(path.distance(0, 23), 23)

    def test_walks(self):
        for web in webs():
            for many, power in enumerate(powers(web, 5)):
                self.assertEqual([[web.walks(x, y, many) for y in range(web.size)] for x in range(web.size)], power)
        full = Web(24, tuple(combinations(range(24), 2)))
        self.assertEqual(full.walks(3, 3, 60) + 23 * full.walks(3, 4, 60), 23 ** 60)
        self.assertEqual(full.walks(3, 3, 60) - full.walks(3, 4, 60), 1)
        for arguments, given in [((6, 7, 61), 6), ((5, 6, 61), 6), ((5, 5, 61), 61), ((0, 0, -1), -1)]:
            error = error_of(PRISM.walks, *arguments)
            self.assertEqual((type(error), error.given), (InvalidNumber, given))
        self.assertEqual(error_of(PRISM.distance, -1, 9).given, -1)


class Moments(unittest.TestCase):

    def test_moments(self):
        for web in webs():
            wanted = tuple([as_own(Fraction(sum(power[x][x] for x in range(web.size)), web.size)) for power in powers(web, 7)])
            for most in range(8):
                self.assertEqual(moments(web, most), wanted[:most + 1])
        full = moments(Web(24, tuple(combinations(range(24), 2))), 60)
        self.assertEqual(full, tuple([as_own(Fraction(23 ** j + 23 * (-1) ** j, 24)) for j in range(61)]))
        self.assertEqual(moments(STAR, 0), ((1, 1),))
        for most in (-1, 61):
            self.assertEqual((type(error_of(moments, STAR, most)), error_of(moments, STAR, most).given), (InvalidNumber, most))
        self.assertIs(type(error_of(moments, None, 61)), InvalidWeb)

    def test_least_polynomials(self):
        for web in webs():
            least = least_poly_of_web(web)
            degree = len(least) - 1
            self.assertEqual(least[-1], (1, 1))
            self.assertFalse(any(entry for row in at_ties(least, web) for entry in row))
            flat = [[entry for row in power for entry in row] for power in powers(web, degree - 1)]
            self.assertEqual(rank(flat), degree)
            if web.is_joined:
                self.assertLessEqual(max(max(row) for row in distances_by_hand(web)), degree - 1)
        self.assertEqual(least_poly_of_web(Web(24, ())), ((0, 1), (1, 1)))
        path = web_of(24, [(x, x + 1) for x in range(23)])
        self.assertEqual(len(least_poly_of_web(path)), 25)

    def test_walk_polynomials(self):
        for web in webs():
            polys, least = walk_polys(web), least_poly_of_web(web)
            told = moments(web, 2 * len(polys) + 1)
            self.assertEqual([len(poly) - 1 for poly in polys], list(range(len(least) - 1)))
            self.assertTrue(all(poly[-1] == (1, 1) for poly in polys))
            for i, one in enumerate(polys + (least,)):
                for j, other in enumerate(polys + (least,)):
                    if i != j or one == least:
                        self.assertEqual(pairing(one, other, told), 0)
                    else:
                        self.assertGreater(pairing(one, other, told), 0)

    def test_great_webs(self):
        draw = random.Random(91)
        for share in [0.2, 0.5, 0.9]:
            web = drawn_web(draw, 24, share)
            polys, told = walk_polys(web), moments(web, 60)
            for i, j in [(0, 1), (3, 5), (len(polys) - 1, len(polys) - 2)]:
                self.assertEqual(pairing(polys[i], polys[j], told), 0)
            self.assertEqual(pairing(least_poly_of_web(web), polys[-1], told), 0)


class Ones(unittest.TestCase):

    def test_ones(self):
        found = 0
        for web in webs():
            poly = ones_poly(web)
            if poly is None:
                self.assertFalse(web.is_regular and web.is_joined)
                # Not even all powers together have 1 everywhere among their sums.
                flat = [[entry for row in power for entry in row] for power in powers(web, web.size)]
                self.assertGreater(rank(flat + [[1] * web.size ** 2]), rank(flat))
            else:
                found += 1
                self.assertTrue(web.is_regular and web.is_joined)
                self.assertLess(len(poly), len(least_poly_of_web(web)))
                self.assertTrue(all(entry == 1 for row in at_ties(poly, web) for entry in row))
        self.assertGreater(found, 30)
        self.assertEqual(ones_poly(Web(1, ())), ((1, 1),))
        self.assertEqual(ones_poly(Web(2, ((0, 1),))), ((1, 1), (1, 1)))
        self.assertIsNone(ones_poly(Web(2, ())))
        self.assertIsNone(ones_poly(STAR))


class Excess(unittest.TestCase):

    def test_excess(self):
        equal = unlike = 0
        for web in webs():
            depth = len(least_poly_of_web(web)) - 2
            told = distances_by_hand(web)
            far = Fraction(sum(row.count(depth) for row in told), web.size)
            self.assertEqual(mean_far(web), as_own(far))
            if not (web.is_regular and web.is_joined):
                self.assertIs(type(error_of(excess, web)), InvalidOperation)
                self.assertIs(is_distance_scheme(web), web.is_joined and thirds_are_equal(told))
                continue
            last = walk_polys(web)[-1]
            value = sum(as_python(entry) * web.valencies[0] ** at for at, entry in enumerate(last))
            wanted = value ** 2 / pairing(last, last, moments(web, 2 * depth))
            self.assertEqual(excess(web), (depth, as_own(Fraction(wanted))))
            self.assertLessEqual(far, wanted)
            self.assertIs(is_distance_scheme(web), far == wanted)
            self.assertIs(is_distance_scheme(web), thirds_are_equal(told))
            equal += far == wanted
            unlike += far != wanted
        self.assertGreater(min(equal, unlike), 10)
        self.assertEqual(mean_far(Web(2, ())), (1, 1))
        self.assertEqual(excess(Web(1, ())), (0, (1, 1)))
        self.assertEqual(mean_far(Web(3, ((0, 1),))), (0, 1))
        self.assertEqual(mean_far(web_of(3, [(0, 1), (0, 2)])), (2, 3))


class Distances(unittest.TestCase):

    def test_schemes(self):
        found = 0
        for web in webs():
            scheme, table = distance_scheme(web), distances_by_hand(web)
            self.assertIs(scheme is None, not is_distance_scheme(web))
            if scheme is not None:
                found += 1
                self.assertEqual(scheme, Scheme(tuple([tuple(row) for row in table])))
        self.assertGreater(found, 20)
        self.assertEqual(distance_scheme(Web(1, ())).table, ((0,),))
        self.assertIsNone(distance_scheme(Web(2, ())))
        self.assertIs(is_distance_scheme(Web(2, ())), False)

    def test_long_distances(self):
        for size in range(20, 25):
            ring = turned_web(size, (1,))
            self.assertIs(is_distance_scheme(ring), True)
            if size < 22:
                self.assertEqual(distance_scheme(ring).most, 10)
            else:
                error = error_of(distance_scheme, ring)
                self.assertEqual((type(error), error.limit), (TooMany, 10))
        path = [(x, x + 1) for x in range(11)]
        self.assertIs(is_distance_scheme(web_of(12, path)), False)
        self.assertEqual(error_of(distance_scheme, web_of(12, path)).limit, 10)
        self.assertIsNone(distance_scheme(web_of(11, path[:10])))
        # Not joined: the distance 11 within one part does not count.
        self.assertIsNone(distance_scheme(web_of(13, path)))
        self.assertIs(is_distance_scheme(web_of(24, [(x, (x + 1) % 23) for x in range(22)] + [(0, 22)])), False)

    def test_not_true(self):
        self.assertEqual(len(least_poly_of_web(STAR)) - 2, 2)
        self.assertIs(STAR.is_joined, True)
        self.assertIs(is_distance_scheme(STAR), False)
        self.assertIsNone(distance_scheme(PRISM))


class OfKinds(unittest.TestCase):

    def test_all_kinds(self):
        for scheme in [PAIRS, SQUARE, CUBE, Scheme.lone(1), Scheme.by_ring(7)] + list(schemes()[-8:]):
            kinds = range(1, scheme.most + 1)
            for many in range(scheme.most + 1):
                for some in list(combinations(kinds, many))[:6]:
                    web = web_of_kinds(scheme, some)
                    self.assertEqual(web.size, scheme.size)
                    wanted = [(x, y) for x, y in combinations(range(scheme.size), 2) if scheme.kind_of(x, y) in some]
                    self.assertEqual(web.ties, tuple(wanted))
        self.assertEqual(web_of_kinds(PAIRS, ()).ties, ())
        self.assertIs(is_distance_scheme(web_of_kinds(PAIRS, (2,))), True)
        self.assertEqual(distance_scheme(web_of_kinds(CUBE, (1,))), CUBE)
        self.assertEqual(web_of_kinds(Scheme.lone(5), (1,)).valencies, (4,) * 5)

    def test_errors(self):
        self.assertEqual(web_of_kinds(Scheme.lone(24), (1,)).size, 24)
        for size in (25, 32):
            error = error_of(web_of_kinds, Scheme.lone(size), (1,))
            self.assertEqual((type(error), error.limit), (TooMany, 24))
            self.assertIs(type(error_of(web_of_kinds, Scheme.lone(size), (2,))), InvalidKinds)
        for kinds in [(0,), (1, 1), (2, 1), (4,), (1, 4), [1], 1, None, (True,), (0, 1)]:
            self.assertIs(type(error_of(web_of_kinds, CUBE, kinds)), InvalidKinds)
        self.assertIs(type(error_of(web_of_kinds, CUBE.table, (4,))), InvalidScheme)
        self.assertEqual(FIVE_RING, web_of_kinds(Scheme.by_ring(5), (1,)))


if __name__ == "__main__":
    unittest.main()
