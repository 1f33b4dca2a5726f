"""Points 11.1 to 11.7, and 0.14."""

import unittest
from fractions import Fraction
from itertools import combinations, product

from tests.samples import CUBE, PAIRS, PRISM_TABLE, SEVEN, TEN, inside, integer_counts, plain_counts, schemes
from tests.support import as_own, as_python, error_of, run_examples
from thirdcounts.eigen.krein import krein_table
from thirdcounts.eigen.spaces import first_table, multiplicities
from thirdcounts.errors import InvalidCounts, InvalidKinds, InvalidNumber, InvalidScheme, Refused
from thirdcounts.ladder.ladders import counts_of_array
from thirdcounts.pairs.counts import counts_of, is_counts, kinds_power, lone_counts, points_of, valencies_of
from thirdcounts.pairs.schemes import Scheme
from thirdcounts.parts.closed import (
    bundles, classes_of, closed_by, closed_sets, is_closed, is_primitive, piece, piece_counts, quotient, quotient_counts, spaces_above
)
from thirdcounts.webs.walks import web_of_kinds

EXAMPLES = """
>>> THREE = counts_of(CUBE)
>>> [closed_sets(THREE), is_closed(THREE, (0, 1)), closed_by(THREE, (1,)), closed_by(THREE, ()), is_primitive(THREE), is_primitive(counts_of(PAIRS))]
[((0,), (0, 1, 2, 3), (0, 2), (0, 3)), False, (0, 1, 2, 3), (0,), False, True]
>>> [classes_of(CUBE, (0, 2)), bundles(THREE, (0, 3)), bundles(THREE, (0, 2)), spaces_above(THREE, (0, 3)), spaces_above(THREE, (0, 2))]
[((0, 3, 5, 6), (1, 2, 4, 7)), ((0, 3), (1, 2)), ((0, 2), (1, 3)), (0, 2), (0, 3)]
>>> [quotient(CUBE, (0, 3)).table, piece(CUBE, (0, 3), 5).table, quotient_counts(THREE, (0, 2)), piece_counts(THREE, (0, 3))]
[((0, 1, 1, 1), (1, 0, 1, 1), (1, 1, 0, 1), (1, 1, 1, 0)), ((0, 1), (1, 0)), (((1, 0), (0, 1)), ((0, 1), (1, 0))), (((1, 0), (0, 1)), ((0, 1), (1, 0)))]
>>> bundles(THREE, (0, 1))
raises InvalidKinds
"""

RING = counts_of(Scheme.by_ring(5))


def subsets(low, high):
    return [some for many in range(high - low + 1) for some in combinations(range(low, high), many)]


def is_closed_by_hand(counts, some):
    rest = [k for k in range(len(counts)) if k not in some]
    return 0 in some and all(counts[k][i][j] == 0 for i in some for j in some for k in rest)


def closed_by_hand(counts):
    return sorted([some for some in subsets(0, len(counts)) if is_closed_by_hand(counts, some)])


def quotient_by_hand(counts, closed):
    """The numbers of the quotient, for each kind of a bundle, as Python's own fractions."""
    told = bundles(counts, closed)
    w = sum(valencies_of(counts)[kind] for kind in closed)
    found = []
    for last in told:
        squares = [[[sum(Fraction(counts[k][i][j], w) for i in one for j in other) for other in told] for one in told] for k in last]
        assert all(square == squares[0] for square in squares)
        found.append(squares[0])
    return found


class Examples(unittest.TestCase):

    def test_examples(self):
        self.assertEqual(run_examples(self, EXAMPLES, dict(globals())), 4)


class ClosedSets(unittest.TestCase):

    def test_all_sets(self):
        for counts in plain_counts():
            wanted = closed_by_hand(counts)
            self.assertEqual(closed_sets(counts), tuple(wanted))
            for some in subsets(0, len(counts))[:300]:
                self.assertIs(is_closed(counts, some), some in wanted)
            for one, other in product(wanted, repeat=2):
                self.assertIn(tuple(sorted(set(one) & set(other))), wanted)
            self.assertIs(is_primitive(counts), set(wanted) == {(0,), tuple(range(len(counts)))})

    def test_least_sets(self):
        for counts in plain_counts():
            told = closed_by_hand(counts)
            for kinds in subsets(1, len(counts))[:150]:
                least = [some for some in told if set(kinds) <= set(some)]
                self.assertEqual(closed_by(counts, kinds), min(least, key=len))
        self.assertEqual(closed_by((((1,),),), ()), (0,))

    def test_products_of_kinds(self):
        for counts in [counts_of(scheme) for scheme in schemes() if scheme.most <= 4]:
            for kinds in subsets(1, len(counts)):
                row = tuple([int(kind in kinds or kind == 0) for kind in range(len(counts))])
                power = kinds_power(counts, row, 12)
                self.assertEqual(closed_by(counts, kinds), tuple([kind for kind, entry in enumerate(power) if entry != (0, 1)]))

    def test_primitive_schemes(self):
        found = set()
        for scheme in [scheme for scheme in schemes() if scheme.size <= 24]:
            joined = all(web_of_kinds(scheme, (kind,)).is_joined for kind in range(1, scheme.most + 1))
            self.assertIs(is_primitive(counts_of(scheme)), joined)
            found.add(joined)
        self.assertEqual(found, {True, False})
        self.assertIs(is_primitive((((1,),),)), True)

    def test_errors(self):
        three = counts_of(CUBE)
        for call, ahead in [
            (piece_counts, [three]), (bundles, [three]), (quotient_counts, [three]), (spaces_above, [three]), (classes_of, [CUBE]), (quotient, [CUBE]),
        ]:
            for wrong in [(0, 1), (0, 2, 3), (3,), (), (0, 1, 2), (0, 4), (2, 0), (0, 0), (False, 2), [0, 2], (0, 2, 2), 0, None]:
                self.assertIs(type(error_of(call, *ahead, wrong)), InvalidKinds, (call, wrong))
        self.assertIs(type(error_of(piece, CUBE, (0, 1), 9)), InvalidKinds)
        self.assertEqual((type(error_of(piece, CUBE, (0, 2), 8)), error_of(piece, CUBE, (0, 2), 8).given), (InvalidNumber, 8))
        self.assertIs(type(error_of(piece, three, (0, 1), 9)), InvalidScheme)
        self.assertIs(type(error_of(bundles, CUBE, (0, 1))), InvalidCounts)
        self.assertIs(is_closed((((1,),),), (-1, 0)), False)
        self.assertIs(is_closed((((1,),),), (0, 1)), False)
        error = error_of(spaces_above, RING, (0,))
        self.assertEqual((type(error), error.reason), (Refused, ("eigenvalues",)))
        self.assertIs(type(error_of(spaces_above, RING, (0, 1))), InvalidKinds)
        for kinds in [(0,), (1, 4), (4,), (2, 1), (1, 1), [1], (True,), None]:
            self.assertIs(type(error_of(closed_by, three, kinds)), InvalidKinds)


class Schemes(unittest.TestCase):

    def each(self):
        for scheme in schemes():
            counts = counts_of(scheme)
            for closed in closed_sets(counts):
                yield scheme, counts, closed, sum(scheme.valencies[kind] for kind in closed)

    def test_classes(self):
        for scheme, _, closed, w in self.each():
            classes = classes_of(scheme, closed)
            self.assertEqual(sorted([point for members in classes for point in members]), list(range(scheme.size)))
            self.assertEqual({len(members) for members in classes}, {w})
            self.assertEqual(list(classes), sorted([tuple(sorted(members)) for members in classes]))
            place = {point: at for at, members in enumerate(classes) for point in members}
            for x, y in product(range(scheme.size), repeat=2):
                self.assertIs(place[x] == place[y], scheme.kind_of(x, y) in closed)

    def test_pieces(self):
        for scheme, counts, closed, _ in self.each():
            told = piece_counts(counts, closed)
            self.assertIs(is_counts(told), True)
            names = {kind: at for at, kind in enumerate(closed)}
            for i, j, k in product(closed, repeat=3):
                self.assertEqual(told[names[k]][names[i]][names[j]], counts[k][i][j])
            for members in classes_of(scheme, closed)[:3]:
                for point in members[:2]:
                    found = piece(scheme, closed, point)
                    self.assertEqual(found.table, tuple([tuple([names[scheme.kind_of(x, y)] for y in members]) for x in members]))
                    self.assertEqual(counts_of(found), told)

    def test_bundles_and_quotients(self):
        for scheme, counts, closed, w in self.each():
            told = bundles(counts, closed)
            self.assertEqual(sorted([kind for bundle in told for kind in bundle]), list(range(scheme.most + 1)))
            self.assertEqual(told[0], closed)
            self.assertEqual(list(told), sorted([tuple(sorted(bundle)) for bundle in told]))
            for bundle in told:
                for i, j in product(range(scheme.most + 1), repeat=2):
                    if i in bundle:
                        self.assertIs(j in bundle, any(counts[j][i][a] != 0 for a in closed))
            classes, found = classes_of(scheme, closed), quotient(scheme, closed)
            self.assertEqual(found.size * w, scheme.size)
            for a, b in product(range(len(classes)), repeat=2):
                for x in classes[a][:2]:
                    self.assertEqual(tuple(sorted({scheme.kind_of(x, y) for y in classes[b]})), told[found.kind_of(a, b)])
            self.assertEqual(quotient_counts(counts, closed), counts_of(found))
            self.assertEqual([[list(map(Fraction, row)) for row in square] for square in counts_of(found)], quotient_by_hand(counts, closed))

    def test_spaces(self):
        for counts in integer_counts():
            first, many = first_table(counts), [as_python(entry) for entry in multiplicities(counts)]
            above, q = {}, krein_table(counts)
            for closed in closed_sets(counts):
                told = spaces_above(counts, closed)
                above[closed] = told
                w = sum(first[0][kind] for kind in closed)
                self.assertEqual(told, tuple([r for r, row in enumerate(first) if all(row[kind] == first[0][kind] for kind in closed)]))
                self.assertEqual(sum(many[r] for r in told), Fraction(sum(first[0]), w))
                for r, s, t in product(told, told, range(len(counts))):
                    self.assertTrue(q[t][r][s] == (0, 1) or t in told)
                rows = [[Fraction(sum(first[r][kind] for kind in bundle), w) for bundle in bundles(counts, closed)] for r in told]
                numbers = quotient_by_hand(counts, closed)
                if all(entry.denominator == 1 for square in numbers for row in square for entry in row):
                    self.assertEqual([list(map(Fraction, row)) for row in first_table(quotient_counts(counts, closed))], rows)
            self.assertEqual(len(set(above.values())), len(above))
            for one, other in product(above, repeat=2):
                if set(one) <= set(other):
                    self.assertLessEqual(set(above[other]), set(above[one]))


class Counts(unittest.TestCase):

    def test_all_counts(self):
        refused = 0
        for counts in plain_counts() + tuple(more_counts()):
            for closed in closed_sets(counts):
                numbers = quotient_by_hand(counts, closed)
                if all(entry.denominator == 1 for square in numbers for row in square for entry in row):
                    told = quotient_counts(counts, closed)
                    self.assertIs(is_counts(told), True)
                    self.assertEqual([[list(map(Fraction, row)) for row in square] for square in told], numbers)
                else:
                    refused += 1
                    error = error_of(quotient_counts, counts, closed)
                    self.assertEqual((type(error), error.reason), (Refused, ("quotient",)))
                self.assertIs(is_counts(piece_counts(counts, closed)), True)
        self.assertGreater(refused, 3)

    def test_seven(self):
        self.assertEqual(closed_sets(SEVEN), ((0,), (0, 1, 2), (0, 2)))
        self.assertEqual(bundles(SEVEN, (0, 2)), ((0, 2), (1,)))
        self.assertEqual(error_of(quotient_counts, SEVEN, (0, 2)).reason, ("quotient",))
        self.assertEqual(piece_counts(SEVEN, (0, 2)), lone_counts(3))
        self.assertEqual(quotient_counts(SEVEN, (0,)), SEVEN)
        self.assertEqual(quotient_counts(SEVEN, (0, 1, 2)), (((1,),),))
        self.assertEqual(spaces_above(SEVEN, (0, 2)), (0, 2))
        self.assertEqual(as_own(Fraction(points_of(SEVEN), 3)), as_own(1 + as_python(multiplicities(SEVEN)[2])))

    def test_not_true(self):
        three = counts_of(CUBE)
        self.assertIs(is_closed(three, (0, 2, 3)), False)
        prism = counts_of(Scheme(PRISM_TABLE))
        self.assertEqual(closed_sets(prism), ((0,), (0, 1), (0, 1, 2, 3), (0, 2)))
        self.assertTrue(is_primitive(quotient_counts(prism, (0, 1))) and is_primitive(piece_counts(prism, (0, 1))))
        self.assertIs(is_primitive(TEN), True)
        deep = counts_of(Scheme(inside(PAIRS.table, Scheme.lone(2).table)))
        self.assertEqual(len(closed_sets(deep)), 3)


def more_counts():
    """Counts of three kinds with a closed set that need not part the points: v is (1, k, w - 1)."""
    for w in range(2, 7):
        for k in range(w, 4 * w + 1):
            counts = (
                ((1, 0, 0), (0, k, 0), (0, 0, w - 1)), ((0, 1, 0), (1, k - w, w - 1), (0, w - 1, 0)), ((0, 0, 1), (0, k, 0), (1, 0, w - 2))
            )
            if is_counts(counts):
                yield counts


if __name__ == "__main__":
    unittest.main()
