"""Points 18.1 to 18.5."""

import random
import unittest
from fractions import Fraction
from functools import cache
from itertools import combinations, product
from math import comb

from tests.support import as_python, error_of, run_examples
from thirdcounts.base.polys import poly_value
from thirdcounts.eigen.spaces import first_table, multiplicities
from thirdcounts.errors import InvalidNumber, TooMany
from thirdcounts.kin.families import LETTERS, MOST_PLACES, MOST_SIZE, MOST_TABLED, MOST_THINGS, Family, ball_poly
from thirdcounts.ladder.ladders import array_of, is_kind_ladder
from thirdcounts.lots.counting import is_perfect
from thirdcounts.pairs.counts import counts_of, is_counts, valencies_of
from thirdcounts.pairs.schemes import Scheme

EXAMPLES = """
>>> WORDS, SPACES = Family.words(7, 2), Family.subspaces(4, 2, 2)
>>> [SPACES.points, SPACES.first_rows(), SPACES.multiplicities, Family.forms(2, 3, 2).first_rows(), Family.subsets(6, 3).first_rows()[1]]
[35, ((1, 18, 16), (1, 3, -4), (1, -3, 2)), (1, 14, 20), ((1, 21, 42), (1, 5, -6), (1, -3, 2)), (1, 3, -3, -1)]
>>> [WORDS.ball(1), WORDS.ball_zeros(1), WORDS.perfect_fault(1), WORDS.perfect_fault(2), Family.words(6, 2).perfect_fault(1), Family.words(23, 2).ball_zeros(3)]
[8, (4,), None, 'size', 'size', (8, 12, 16)]
>>> [Family.subsets(40, 20).eigenvalue(3, 2), Family.words(3, 2).number(1, 2, 3), Family.subsets(5, 2).counts() == counts_of(PAIRS), str(SPACES), ball_poly(7, 2, 1)]
[17632, 3, True, 'subspaces 4 2 2', ((8, 1), (-2, 1))]
>>> Family.words(11, 2).counts()
raises TooMany(10)
"""

PAIRS = Scheme.by_sharing(5, 2)


def C(a, b):
    return comb(a, b) if 0 <= b <= a else 0


def B(a, b, q):
    """How many b-dimensional subspaces a space of a dimensions has."""
    if not 0 <= b <= a:
        return 0
    told = Fraction(1)
    for i in range(b):
        told *= Fraction(q ** (a - i) - 1, q ** (i + 1) - 1)
    assert told.denominator == 1
    return told.numerator


def words_row(n, q):
    d = n
    rows = [[sum((-1) ** j * (q - 1) ** (i - j) * C(r, j) * C(n - r, i - j) for j in range(i + 1)) for i in range(d + 1)] for r in range(d + 1)]
    v = [C(n, i) * (q - 1) ** i for i in range(d + 1)]
    return q ** n, v, v, rows


def subsets_row(n, k):
    d = min(k, n - k)
    rows = [[sum((-1) ** j * C(r, j) * C(k - r, i - j) * C(n - k - r, i - j) for j in range(i + 1)) for i in range(d + 1)] for r in range(d + 1)]
    return C(n, k), [C(k, i) * C(n - k, i) for i in range(d + 1)], [C(n, r) - C(n, r - 1) for r in range(d + 1)], rows


def subspaces_row(n, k, q):
    d = min(k, n - k)

    def entry(r, i):
        return sum(
            (-1) ** (i - j) * q ** (r * j + C(i - j, 2)) * B(k - j, i - j, q) * B(k - r, j, q) * B(n - k + j - r, j, q) for j in range(i + 1)
        )

    v = [q ** (i * i) * B(k, i, q) * B(n - k, i, q) for i in range(d + 1)]
    return B(n, k, q), v, [B(n, r, q) - B(n, r - 1, q) for r in range(d + 1)], [[entry(r, i) for i in range(d + 1)] for r in range(d + 1)]


def forms_row(k, n, q):

    def entry(r, i):
        return sum((-1) ** (i - j) * q ** (j * n + C(i - j, 2)) * B(k - j, k - i, q) * B(k - r, j, q) for j in range(i + 1))

    v = []
    for i in range(k + 1):
        told = B(k, i, q)
        for low in range(i):
            told *= q ** n - q ** low
        v.append(told)
    return q ** (k * n), v, v, [[entry(r, i) for i in range(k + 1)] for r in range(k + 1)]


@cache
def families():
    """Families with what their formulas tell."""
    found = [(Family.words(n, q), f"words {n} {q}", words_row(n, q)) for n in range(1, 13) for q in range(2, 10)]
    found += [(Family.words(30, q), f"words 30 {q}", words_row(30, q)) for q in (2, 9)]
    found += [(Family.subsets(n, k), f"subsets {n} {k}", subsets_row(n, k)) for n in list(range(1, 14)) + [40] for k in range(n + 1)]
    sizes = [(n, k, q) for n in range(1, 13) for k in range(n + 1) for q in LETTERS if q < 4 or n < 7 or n == 12 and k == 6]
    found += [(Family.subspaces(*size), "subspaces {} {} {}".format(*size), subspaces_row(*size)) for size in sizes]
    sizes = [(k, n, q) for k in range(1, 7) for n in range(k, 13) for q in LETTERS if q < 4 or k < 3 or n == 12]
    found += [(Family.forms(*size), "forms {} {} {}".format(*size), forms_row(*size)) for size in sizes]
    return tuple(found)


def echelons(columns, rows, q):
    """All subspaces over a field of q elements, q a prime, as the sets of their vectors."""
    vectors = list(product(range(q), repeat=columns))
    found = set()
    for some in product(vectors, repeat=rows):
        span = set()
        for factors in product(range(q), repeat=rows):
            span.add(tuple([sum(a * v[at] for a, v in zip(factors, some)) % q for at in range(columns)]))
        if len(span) == q ** rows:
            found.add(frozenset(span))
    return sorted([tuple(sorted(span)) for span in found])


def rank_of(table, q):
    rows, rank = [list(row) for row in table], 0
    for column in range(len(rows[0])):
        lead = next((at for at in range(rank, len(rows)) if rows[at][column] % q), None)
        if lead is None:
            continue
        rows[rank], rows[lead] = rows[lead], rows[rank]
        undone = pow(rows[rank][column], -1, q)
        for at in range(rank + 1, len(rows)):
            factor = rows[at][column] * undone
            rows[at] = [(a - factor * b) % q for a, b in zip(rows[at], rows[rank])]
        rank += 1
    return rank


class Examples(unittest.TestCase):

    def test_examples(self):
        self.assertEqual(run_examples(self, EXAMPLES, dict(globals())), 4)
        self.assertEqual((MOST_THINGS, MOST_PLACES, MOST_SIZE, MOST_TABLED, LETTERS), (40, 30, 12, 10, (2, 3, 4, 5, 7, 8, 9)))


class Tables(unittest.TestCase):

    def test_formulas(self):
        for family, name, (points, v, m, rows) in families():
            d = len(rows) - 1
            self.assertEqual((str(family), family.points, family.most), (name, points, d))
            self.assertEqual((family.valencies, family.multiplicities), (tuple(v), tuple(m)))
            self.assertEqual(family.first_rows(), tuple([tuple(row) for row in rows]))
            self.assertEqual(family.first_rows(), tuple(sorted(family.first_rows(), reverse=True)))
            for r, i in [(0, 0), (d, d), (0, d), (d, 0), (d // 2, d // 3)]:
                self.assertEqual(family.eigenvalue(r, i), rows[r][i])
            values = [family.points, family.most, *family.valencies, *family.multiplicities, *[entry for row in family.first_rows() for entry in row]]
            self.assertTrue(all(type(value) is int for value in values))
            self.assertEqual((sum(v), sum(m)), (points, points))

    def test_orthogonal_rows(self):
        for family, _, (points, v, m, rows) in families():
            d = len(rows) - 1
            for i, j in {(0, d), (d, d), (d // 2, d // 2), (1 % (d + 1), d)}:
                self.assertEqual(sum(m[r] * rows[r][i] * rows[r][j] for r in range(d + 1)), points * v[i] if i == j else 0)

    def test_counts(self):
        tabled = 0
        for at, (family, _, (points, v, m, rows)) in enumerate(families()):
            if family.most > 10:
                error = error_of(family.counts)
                self.assertEqual((type(error), error.limit), (TooMany, 10))
            elif max(v) > 10 ** 12:
                error = error_of(family.counts)
                self.assertEqual((type(error), error.limit), (TooMany, 10 ** 12))
            elif at % 5 == 0 and (family.most < 7 or at % 3 == 0):
                tabled += 1
                counts = family.counts()
                self.assertIs(is_counts(counts), True)
                self.assertEqual(valencies_of(counts), tuple(v))
                self.assertEqual(first_table(counts), family.first_rows())
                self.assertEqual(multiplicities(counts), tuple([(entry, 1) for entry in m]))
                self.assertIs(is_kind_ladder(counts, tuple(range(family.most + 1))), True)
        self.assertGreater(tabled, 60)

    def test_numbers(self):
        draw = random.Random(18)
        for family, _, (points, v, m, rows) in families():
            for _ in range(3):
                i, j, k = [draw.randint(0, family.most) for _ in range(3)]
                told = sum(m[r] * rows[r][i] * rows[r][j] * rows[r][k] for r in range(len(rows)))
                number = family.number(i, j, k)
                self.assertEqual(number * points * v[k], told)
                self.assertTrue(type(number) is int and number >= 0)
                if family.most <= 10 and max(v) <= 10 ** 12 and family.most <= 4:
                    self.assertEqual(family.counts()[k][i][j], number)

    def test_limits(self):
        self.assertEqual(len(Family.words(10, 2).counts()), 11)
        self.assertEqual(error_of(Family.words(11, 2).counts).limit, 10)
        self.assertEqual(len(Family.subsets(20, 10).counts()), 11)
        self.assertEqual(error_of(Family.subsets(22, 11).counts).limit, 10)
        self.assertEqual(error_of(Family.words(30, 9).counts).limit, 10)
        self.assertEqual(error_of(Family.forms(6, 12, 9).counts).limit, 10 ** 12)
        self.assertEqual(Family.subsets(40, 1).counts(), (((1, 0), (0, 39)), ((0, 1), (1, 38))))
        self.assertEqual(Family.subsets(7, 0).counts(), (((1,),),))
        self.assertEqual((Family.subsets(7, 7).points, Family.subsets(7, 7).most), (1, 0))
        self.assertEqual((Family.subspaces(3, 3, 2).points, Family.subspaces(3, 0, 9).points), (1, 1))


class Points(unittest.TestCase):
    """The families are those of the points and kinds that the document tells."""

    def test_words_and_subsets(self):
        for places, letters in [(1, 2), (2, 2), (3, 2), (5, 2), (2, 3), (3, 3), (2, 5), (1, 9)]:
            self.assertEqual(Family.words(places, letters).counts(), counts_of(Scheme.by_places(places, letters)))
        for things in range(1, 9):
            for many in range(things + 1):
                if comb(things, many) <= 32:
                    self.assertEqual(Family.subsets(things, many).counts(), counts_of(Scheme.by_sharing(things, many)))

    def test_subspaces(self):
        for n, k, q in [(2, 1, 2), (3, 1, 2), (3, 2, 2), (2, 1, 3), (3, 1, 3), (4, 2, 2), (4, 1, 2), (3, 0, 2), (2, 2, 3), (2, 1, 7)]:
            spaces = echelons(n, k, q)
            self.check(Family.subspaces(n, k, q), spaces, lambda one, other: k - dimension(len(set(one) & set(other)), q))

    def test_forms(self):
        for k, n, q in [(1, 1, 2), (1, 2, 2), (2, 2, 2), (1, 3, 3), (1, 2, 5), (2, 3, 2), (2, 2, 3), (1, 1, 7)]:
            tables = [tuple([told[at * n:at * n + n] for at in range(k)]) for told in product(range(q), repeat=k * n)]
            self.check(
                Family.forms(k, n, q), tables,
                lambda one, other: rank_of([[(a - b) % q for a, b in zip(row, low)] for row, low in zip(one, other)], q)
            )

    def check(self, family, points, kind_of):
        """Check the counts of all thirds of pairs with the first point."""
        self.assertEqual(family.points, len(points))
        rows = {0: [kind_of(points[0], z) for z in points]}
        v = [rows[0].count(i) for i in range(family.most + 1)]
        self.assertEqual((family.valencies, len(rows[0])), (tuple(v), sum(v)))
        for k in range(family.most + 1):
            y = rows[0].index(k)
            row = [kind_of(points[y], z) for z in points]
            for i, j in product(range(family.most + 1), repeat=2):
                self.assertEqual(family.number(i, j, k), sum(a == i and b == j for a, b in zip(rows[0], row)))

    def test_small_fields(self):
        # Fields of 4, 8 and 9 elements: the points of a line, and the tables of one entry.
        for q in (4, 8, 9):
            self.assertEqual(Family.subspaces(2, 1, q).first_rows(), ((1, q), (1, -1)))
            self.assertEqual(Family.forms(1, 1, q).first_rows(), ((1, q - 1), (1, -1)))


def dimension(size, q):
    return next(d for d in range(9) if q ** d == size)


class Balls(unittest.TestCase):

    def test_balls(self):
        for family, _, (points, v, m, rows) in families():
            for e in {0, 1 % len(rows), len(rows) // 2, len(rows) - 1}:
                self.assertEqual(family.ball(e), sum(v[:e + 1]))
                sums = [sum(row[:e + 1]) for row in rows]
                zeros = tuple([r for r in range(1, len(rows)) if sums[r] == 0])
                self.assertEqual(family.ball_zeros(e), zeros)
                self.assertLessEqual(len(zeros), e)
                wanted = "size" if points % family.ball(e) else "zeros" if len(zeros) != e else None
                self.assertEqual(family.perfect_fault(e), wanted)

    def test_known_ones(self):
        self.assertEqual([Family.words(23, 2).perfect_fault(3), Family.words(11, 3).perfect_fault(2), Family.words(5, 2).perfect_fault(2)], [None] * 3)
        self.assertEqual(Family.words(30, 2).perfect_fault(2), "size")
        told = [family.perfect_fault(e) for family, _, _ in families() for e in range(family.most + 1)]
        self.assertEqual({None, "size", "zeros"}, set(told))
        for family in [Family.words(9, 3), Family.subsets(9, 4), Family.forms(2, 3, 2), Family.subspaces(5, 2, 3)]:
            self.assertEqual((family.perfect_fault(0), family.perfect_fault(family.most)), (None, None))

    def test_perfect_lots(self):
        """Where some lot is perfect, there is no fault."""
        for scheme, family in [(Scheme.by_places(3, 2), Family.words(3, 2)), (Scheme.by_sharing(5, 2), Family.subsets(5, 2)), (Scheme.by_places(2, 3), Family.words(2, 3))]:
            order = tuple(range(scheme.most + 1))
            for many in range(1, scheme.size + 1):
                for lot in combinations(range(scheme.size), many):
                    for e in range(scheme.most + 1):
                        covered = [sum(scheme.table[x][y] <= e for y in lot) for x in range(scheme.size)]
                        if set(covered) == {1}:
                            self.assertIs(family.perfect_fault(e), None)
                            self.assertIs(is_perfect(scheme, order, lot), True)

    def test_ball_polys(self):
        for n in list(range(1, 13)) + [30]:
            for q in (2, 3, 9):
                family, shorter = Family.words(n, q), Family.words(max(1, n - 1), q)
                for e in {0, 1, n // 2, n - 1, n}:
                    poly = ball_poly(n, q, e)
                    self.assertEqual(len(poly) - 1, e)
                    for r in range(n + 1):
                        value = poly_value(poly, r)
                        self.assertEqual(value, (sum(family.first_rows()[r][:e + 1]), 1))
                        if r >= 1 and n > 1 and e < n:
                            self.assertEqual(value[0], shorter.eigenvalue(r - 1, e))
        self.assertEqual(ball_poly(1, 2, 0), ((1, 1),))
        self.assertEqual(ball_poly(1, 2, 1), ((2, 1), (-2, 1)))

    def test_not_true(self):
        # A perfect lot here would be two Latin squares of six letters that are orthogonal, and there are none.
        self.assertIs(Family.words(7, 6).perfect_fault(1), None)


class Objects(unittest.TestCase):

    def test_equality(self):
        told = [
            Family.words(3, 2), Family.words(3, 3), Family.words(2, 3), Family.subsets(3, 2), Family.subsets(3, 1), Family.subspaces(3, 2, 2),
            Family.subspaces(3, 2, 3), Family.forms(3, 3, 2), Family.forms(2, 3, 3), Family.words(1, 2), Family.forms(1, 1, 2),
        ]
        for at, one in enumerate(told):
            for further, other in enumerate(told):
                self.assertIs(one == other, at == further)
                self.assertIs(one != other, at != further)
            for value in [None, True, 0, "words 3 2", ("words", 3, 2), one.first_rows(), Family, PAIRS, [one]]:
                self.assertIs(one == value, False)
                self.assertIs(one != value, True)
        self.assertIs(Family.words(3, 2) == Family.words(3, 2), True)
        self.assertEqual(Family.words(1, 2).first_rows(), Family.forms(1, 1, 2).first_rows())

    def test_never_changes(self):
        family = Family.words(3, 2)
        for name in ["most", "points", "valencies", "multiplicities"]:
            before = getattr(family, name)
            self.assertRaises(AttributeError, setattr, family, name, 1)
            self.assertEqual(getattr(family, name), before)
        self.assertRaises(TypeError, iter, family)
        self.assertRaises(TypeError, len, family)

    def test_errors(self):
        for call, arguments, given in [
            (Family.words, (0, 1), 0), (Family.words, (31, 2), 31), (Family.words, (30, 1), 1), (Family.words, (30, 10), 10), (Family.subsets, (0, 0), 0),
            (Family.subsets, (41, 50), 41), (Family.subsets, (40, 41), 41), (Family.subsets, (40, -1), -1), (Family.subspaces, (0, 0, 2), 0), (Family.subspaces, (13, 14, 6), 13),
            (Family.subspaces, (12, 13, 6), 13), (Family.subspaces, (12, 6, 6), 6), (Family.subspaces, (12, 6, 10), 10), (Family.subspaces, (12, 6, 1), 1), (Family.forms, (0, 0, 0), 0),
            (Family.forms, (7, 12, 2), 7), (Family.forms, (3, 2, 6), 2), (Family.forms, (3, 13, 6), 13), (Family.forms, (3, 3, 6), 6), (Family.forms, (3, 3, 11), 11), (ball_poly, (0, 0, 0), 0),
            (ball_poly, (7, 10, 8), 10), (ball_poly, (7, 9, 8), 8), (ball_poly, (7, 9, -1), -1),
        ]:
            error = error_of(call, *arguments)
            self.assertEqual((type(error), error.given), (InvalidNumber, given))
        for wrong in [True, False, None, (2, 1), "2", [2], 10 ** 99]:
            for call, arguments in [(Family.words, (wrong, None)), (Family.words, (3, wrong)), (Family.forms, (1, 1, wrong)), (Family.subspaces, (2, 1, wrong))]:
                error = error_of(call, *arguments)
                self.assertIs(type(error), InvalidNumber)
                self.assertIs(error.given, wrong)
        family = Family.subsets(6, 3)
        for call, many in [(family.eigenvalue, 2), (family.number, 3), (family.ball, 1), (family.ball_zeros, 1), (family.perfect_fault, 1)]:
            for at in range(many):
                for wrong in [4, -1, True, None, (0, 1), "0"]:
                    arguments = [0] * at + [wrong] + [9] * (many - at - 1)
                    error = error_of(call, *arguments)
                    self.assertIs(type(error), InvalidNumber)
                    self.assertIs(error.given, wrong)

    def test_ladders(self):
        for family in [Family.words(3, 3), Family.subspaces(5, 2, 2), Family.forms(2, 3, 2), Family.subsets(9, 4)]:
            counts = family.counts()
            b, c = array_of(counts, tuple(range(family.most + 1)))
            self.assertEqual([family.number(1, i + 1, i) for i in range(family.most)], list(b))
            self.assertEqual([family.number(1, i - 1, i) for i in range(1, family.most + 1)], list(c))
            self.assertEqual([as_python(entry) for entry in multiplicities(counts)], list(family.multiplicities))


if __name__ == "__main__":
    unittest.main()
