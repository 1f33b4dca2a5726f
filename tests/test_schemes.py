"""Points 4.1 to 4.5, 0.9 and 0.10."""

import random
import unittest
from itertools import combinations, cycle, permutations, product
from math import comb

from tests.samples import BENT, CUBE, PAIRS, PRISM_TABLE, SQUARE, TWISTED, beside, inside, schemes, tables
from tests.support import error_of, run_examples
from thirdcounts.errors import InvalidMoves, InvalidNumber, InvalidOrder, InvalidScheme, TooMany
from thirdcounts.pairs import schemes as module
from thirdcounts.pairs.schemes import (
    Scheme, is_fault, is_kinds_table, is_scheme_table, points_of_subsets, points_of_words, scheme_fault, thirds
)

EXAMPLES = """
>>> [str(PAIRS), PAIRS.valencies, PAIRS.table[0], points_of_subsets(5, 2)[:5], PAIRS.kind_of(0, 9), PAIRS.around(0, 2), PAIRS.number(1, 1, 2)]
['scheme of 10 points, 2 kinds', (1, 6, 3), (0, 1, 1, 1, 1, 1, 1, 2, 2, 2), ((0, 1), (0, 2), (0, 3), (0, 4), (1, 2)), 2, (7, 8, 9), 4]
>>> [thirds(SQUARE.table, 0, 1), CUBE.most, Scheme.by_ring(5).valencies, Scheme.lone(1).table, len(SQUARE), Scheme.by_sharing(4, 2).renumbered((0, 2, 1)).table[0]]
[((0, 1, 0), (1, 1, 2), (0, 2, 2)), 3, (1, 2, 2), ((0,),), 9, (0, 2, 2, 2, 2, 1)]
>>> PRISM = ((0, 1, 1, 2, 3, 3), (1, 0, 1, 3, 2, 3), (1, 1, 0, 3, 3, 2), (2, 3, 3, 0, 1, 1), (3, 2, 3, 1, 0, 1), (3, 3, 2, 1, 1, 0))
>>> BENT = ((0, 1, 1, 2, 2), (1, 0, 2, 1, 2), (1, 2, 0, 2, 1), (2, 1, 2, 0, 2), (2, 2, 1, 2, 0))
>>> [is_scheme_table(PRISM), is_kinds_table(BENT), is_scheme_table(BENT), is_fault(BENT, (0, 1, 1, 3, 2, 1)), is_fault(BENT, (0, 1, 1, 3, 1, 2)), scheme_fault(CUBE.table)]
[True, True, False, True, False, None]
>>> Scheme(BENT)
raises InvalidScheme
"""


def thirds_by_hand(table, x, y):
    """The number of the points of each two kinds, by a look at all points."""
    most = max(map(max, table))
    size = len(table)
    return tuple([
        tuple([len([z for z in range(size) if table[x][z] == i and table[z][y] == j]) for j in range(most + 1)]) for i in range(most + 1)
    ])


def is_scheme_by_hand(table):
    found = {}
    for x, y in product(range(len(table)), repeat=2):
        if found.setdefault(table[x][y], thirds_by_hand(table, x, y)) != thirds_by_hand(table, x, y):
            return False
    return True


def drawn_table(draw, size, most):
    """A kinds table with as many kinds as there is room for."""
    while True:
        rows = [[0] * size for _ in range(size)]
        for x, y in combinations(range(size), 2):
            rows[x][y] = rows[y][x] = draw.randint(1, most)
        table = tuple([tuple(row) for row in rows])
        if is_kinds_table(table):
            return table


def all_tables(size, most):
    """All kinds tables of so many points with kinds up to a number."""
    pairs = list(combinations(range(size), 2))
    for kinds in product(range(1, most + 1), repeat=len(pairs)):
        rows = [[0] * size for _ in range(size)]
        for (x, y), kind in zip(pairs, kinds):
            rows[x][y] = rows[y][x] = kind
        table = tuple([tuple(row) for row in rows])
        if is_kinds_table(table):
            yield table


class Examples(unittest.TestCase):

    def test_examples(self):
        self.assertEqual(run_examples(self, EXAMPLES, dict(globals())), 4)

    def test_constants(self):
        self.assertEqual((module.MAX_POINTS, module.MAX_KINDS), (32, 10))


class KindsTables(unittest.TestCase):

    def test_bounds(self):
        lone = [tuple([tuple([int(x != y) for y in range(size)]) for x in range(size)]) for size in range(34)]
        for size in range(34):
            self.assertIs(is_kinds_table(lone[size]), 1 <= size <= 32)
            self.assertIs(is_scheme_table(lone[size]), 1 <= size <= 32)
        path = [tuple([tuple([abs(x - y) for y in range(size)]) for x in range(size)]) for size in range(13)]
        self.assertIs(is_kinds_table(path[11]), True)
        self.assertIs(is_kinds_table(path[12]), False)

    def test_form(self):
        right = PRISM_TABLE
        self.assertIs(is_kinds_table(right), True)
        for x, y in product(range(6), repeat=2):
            for kind in [0, 1, 2, 3, 4, -1, 11, True, None, (1, 1)]:
                rows = [list(row) for row in right]
                rows[x][y] = kind
                table = tuple([tuple(row) for row in rows])
                self.assertIs(is_kinds_table(table), kind is not True and table == right, table)

    def test_kinds_without_gaps(self):
        for most in range(2, 11):
            kinds = [kind for kind in range(1, most + 1)]
            size = 5
            for left_out in [0] + kinds:
                cells = cycle([kind for kind in kinds if kind != left_out])
                rows = [[0] * size for _ in range(size)]
                for x, y in combinations(range(size), 2):
                    rows[x][y] = rows[y][x] = next(cells)
                table = tuple([tuple(row) for row in rows])
                self.assertIs(is_kinds_table(table), left_out in (0, most), table)

    def test_a_kind_may_miss_in_the_first_row(self):
        table = ((0, 1, 1), (1, 0, 2), (1, 2, 0))
        self.assertIs(is_kinds_table(table), True)
        self.assertEqual(thirds(table, 0, 1), ((0, 1, 0), (1, 0, 1), (0, 0, 0)))
        self.assertIs(is_fault(table, (0, 0, 1, 1, 2, 2)), True)
        self.assertIs(is_fault(table, (0, 0, 1, 1, 3, 2)), False)


class Thirds(unittest.TestCase):

    def test_by_hand(self):
        draw = random.Random(41)
        for table in list(tables()[:12]) + [drawn_table(draw, draw.randint(3, 7), draw.randint(1, 4)) for _ in range(30)]:
            for _ in range(6):
                x, y = draw.randrange(len(table)), draw.randrange(len(table))
                self.assertEqual(thirds(table, x, y), thirds_by_hand(table, x, y))

    def test_all_small_tables(self):
        for table in [table for size, most in [(1, 1), (2, 2), (3, 3), (4, 3)] for table in all_tables(size, most)]:
            self.check_fault(table)

    def test_drawn_tables(self):
        draw = random.Random(42)
        for _ in range(150):
            self.check_fault(drawn_table(draw, draw.randint(3, 7), draw.randint(1, 4)))

    def check_fault(self, table):
        fault = scheme_fault(table)
        self.assertIs(is_scheme_table(table), is_scheme_by_hand(table), table)
        self.assertIs(fault is None, is_scheme_by_hand(table))
        if fault is None:
            self.assertEqual(Scheme(table).table, table)
        else:
            self.assertIs(is_fault(table, fault), True)
            self.assertIs(type(error_of(Scheme, table)), InvalidScheme)

    def test_each_fault(self):
        draw = random.Random(43)
        for table in [BENT, ((0, 1, 2), (1, 0, 1), (2, 1, 0))] + [drawn_table(draw, 4, 3)]:
            points, kinds = range(-1, min(len(table), 4) + 1), range(-1, max(map(max, table)) + 2)
            for x, y, u, w in product(points, repeat=4):
                within = all(0 <= point < len(table) for point in (x, y, u, w)) and table[x][y] == table[u][w]
                if within:
                    left, right = thirds_by_hand(table, x, y), thirds_by_hand(table, u, w)
                for i, j in product(kinds, repeat=2):
                    wanted = within and 0 <= i < len(left) and 0 <= j < len(left) and left[i][j] != right[i][j]
                    self.assertIs(is_fault(table, (x, y, u, w, i, j)), wanted)

    def test_more_kinds_than_points(self):
        cells = iter(range(1, 7))
        rows = [[0] * 4 for _ in range(4)]
        for x, y in combinations(range(4), 2):
            rows[x][y] = rows[y][x] = next(cells)
        table = tuple([tuple(row) for row in rows])
        for i, j in product(range(8), repeat=2):
            wanted = i == j and i > 0 and [i in table[0], i in table[3]].count(True) == 1 and i < 7
            self.assertIs(is_fault(table, (0, 0, 3, 3, i, j)), wanted)

    def test_turned_pairs(self):
        # The thirds of (y, x) are those of (x, y), turned; so both kinds may be in a fault of one pair with itself.
        table = ((0, 1, 1, 2), (1, 0, 2, 2), (1, 2, 0, 1), (2, 2, 1, 0))
        self.assertEqual(thirds(table, 1, 0), tuple(zip(*thirds(table, 0, 1))))
        self.assertIs(is_fault(table, (0, 1, 1, 0, 1, 2)), thirds(table, 0, 1)[1][2] != thirds(table, 1, 0)[1][2])
        self.assertIs(is_fault(table, (0, 2, 2, 0, 2, 1)), thirds(table, 0, 2)[2][1] != thirds(table, 2, 0)[2][1])

    def test_not_true(self):
        # Each kind has a valency, and yet the table of the prism's ties, without the kind of the sides, is no scheme.
        prism = tuple([tuple([0 if x == y else 1 if PRISM_TABLE[x][y] in (1, 2) else 2 for y in range(6)]) for x in range(6)])
        self.assertEqual(len({tuple(sorted(row)) for row in prism}), 1)
        self.assertIs(is_scheme_table(prism), False)
        one, other = Scheme.by_ring(8), Scheme(tuple([tuple([[0, 1, 3, 2, 4][kind] for kind in row]) for row in Scheme.by_ring(8).table]))
        self.assertEqual(one.valencies, other.valencies)
        self.assertNotEqual(one.all_numbers(), other.all_numbers())


class Families(unittest.TestCase):

    def test_subsets(self):
        for things in range(1, 33):
            for many in range(things + 1):
                if comb(things, many) > 32:
                    for call in (Scheme.by_sharing, points_of_subsets):
                        error = error_of(call, things, many)
                        self.assertEqual((type(error), error.limit), (TooMany, 32))
                else:
                    subsets = tuple(combinations(range(things), many))
                    self.assertEqual(points_of_subsets(things, many), subsets)
                    wanted = tuple([tuple([len(set(one) - set(other)) for other in subsets]) for one in subsets])
                    self.assertEqual(Scheme.by_sharing(things, many).table, wanted)

    def test_words(self):
        for places in range(1, 6):
            for letters in range(2, 33):
                if letters ** places > 32:
                    for call in (Scheme.by_places, points_of_words):
                        error = error_of(call, places, letters)
                        self.assertEqual((type(error), error.limit), (TooMany, 32))
                else:
                    words = tuple(product(range(letters), repeat=places))
                    self.assertEqual(points_of_words(places, letters), words)
                    wanted = tuple([tuple([sum(a != b for a, b in zip(one, other)) for other in words]) for one in words])
                    self.assertEqual(Scheme.by_places(places, letters).table, wanted)

    def test_rings_and_lone_points(self):
        for size in range(1, 21):
            wanted = tuple([tuple([min(abs(x - y), size - abs(x - y)) for y in range(size)]) for x in range(size)])
            self.assertEqual(Scheme.by_ring(size).table, wanted)
            self.assertEqual(Scheme.by_ring(size).most, size // 2)
        for size in range(1, 33):
            self.assertEqual(Scheme.lone(size).table, tuple([tuple([int(x != y) for y in range(size)]) for x in range(size)]))
            self.assertEqual(Scheme.lone(size).valencies, (1, size - 1)[:1 if size == 1 else 2])

    def test_edges(self):
        for call, arguments, given in [
            (Scheme.by_sharing, (0, 0), 0), (Scheme.by_sharing, (33, 1), 33), (Scheme.by_sharing, (5, 6), 6), (Scheme.by_sharing, (33, 40), 33),
            (Scheme.by_sharing, (5, -1), -1), (Scheme.by_places, (0, 2), 0), (Scheme.by_places, (6, 1), 6), (Scheme.by_places, (1, 33), 33),
            (Scheme.by_places, (5, 1), 1), (Scheme.by_ring, (0,), 0), (Scheme.by_ring, (21,), 21), (Scheme.lone, (0,), 0), (Scheme.lone, (33,), 33),
            (points_of_words, (6, 40), 6), (points_of_subsets, (5, 6), 6),
        ]:
            error = error_of(call, *arguments)
            self.assertEqual((type(error), error.given), (InvalidNumber, given))
        self.assertEqual(Scheme.by_sharing(32, 31).size, 32)
        self.assertEqual(Scheme.by_places(1, 32), Scheme.lone(32))
        self.assertEqual((Scheme.by_places(5, 2).most, Scheme.by_ring(20).most), (5, 10))


class Schemes(unittest.TestCase):

    def test_all_schemes(self):
        for scheme, table in zip(schemes(), tables()):
            self.assertIs(is_scheme_table(table), True)
            self.assertIsNone(scheme_fault(table))
            most = max(map(max, table))
            self.assertEqual((scheme.table, scheme.size, scheme.most), (table, len(table), most))
            self.assertEqual(scheme.valencies, tuple([table[0].count(kind) for kind in range(most + 1)]))
            self.assertEqual(str(scheme), f"scheme of {len(table)} points, {most} kinds")
            self.assertEqual((len(scheme), list(scheme)), (len(table), list(table)))

    def test_methods(self):
        draw = random.Random(44)
        for scheme in schemes():
            size, kinds = scheme.size, range(scheme.most + 1)
            for _ in range(8):
                x, y = draw.randrange(size), draw.randrange(size)
                kind = scheme.kind_of(x, y)
                self.assertEqual(kind, scheme.table[x][y])
                self.assertEqual(tuple([tuple([scheme.number(i, j, kind) for j in kinds]) for i in kinds]), thirds_by_hand(scheme.table, x, y))
                self.assertEqual(scheme.around(x, kind), tuple([z for z in range(size) if scheme.table[x][z] == kind]))
                self.assertEqual(len(scheme.around(x, kind)), scheme.valencies[kind])

    def test_renamed(self):
        draw = random.Random(45)
        for scheme in schemes():
            move, names = list(range(scheme.size)), list(range(1, scheme.most + 1))
            draw.shuffle(move)
            draw.shuffle(names)
            table, other = scheme.renamed(tuple(move)).table, scheme.renumbered((0, *names)).table
            for x, y in product(range(scheme.size), repeat=2):
                self.assertEqual(table[x][y], scheme.table[move[x]][move[y]])
                self.assertEqual(other[x][y], (0, *names)[scheme.table[x][y]])
        self.assertEqual(Scheme.by_ring(5).renamed((0, 2, 4, 1, 3)), Scheme.by_ring(5).renumbered((0, 2, 1)))
        self.assertEqual(CUBE.renamed(tuple(range(8))), CUBE)

    def test_wrong_names(self):
        for move in permutations((0, 1, 2, 2)):
            self.assertIs(type(error_of(Scheme.lone(4).renamed, move)), InvalidMoves)
        for names in permutations(range(4)):
            error = error_of(CUBE.renumbered, names)
            self.assertIs(type(error), type(None) if names[0] == 0 else InvalidOrder)

    def test_equality(self):
        for scheme, table in zip(schemes(), tables()):
            self.assertIs(scheme == Scheme(table), True)
            self.assertIs(scheme != Scheme(table), False)
            self.assertIs(scheme == table, False)
        self.assertIs(PAIRS == PAIRS.renumbered((0, 2, 1)), False)
        self.assertIs(Scheme.lone(3) == Scheme.lone(4), False)

    def test_rows_are_in_a_scheme(self):
        self.assertIs((0, 1) in Scheme.lone(2), True)
        for value in [(0, True), (False, 1), (1, 1), (0, 0), [0, 1], (0,), (0, 1, 1), 0, ((0, 1), (1, 0)), (0, (1, 1)), (0, 11)]:
            self.assertIs(value in Scheme.lone(2), False, value)

    def test_products_are_schemes(self):
        for one, other in product([Scheme.lone(2).table, Scheme.by_ring(5).table, Scheme.by_sharing(4, 2).table], repeat=2):
            if len(one) * len(other) <= 32:
                self.assertIs(is_scheme_table(inside(one, other)), True)
                self.assertIs(is_scheme_table(beside(one, other)), True)
        self.assertEqual(Scheme(TWISTED).valencies, (1, 6, 9))


if __name__ == "__main__":
    unittest.main()
