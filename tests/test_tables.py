"""Points 2.1 to 2.7, and the conventions for tables."""

import random
import unittest
from fractions import Fraction
from itertools import permutations

from tests.support import (
    LONG, NO_NUMBERS, NO_ROWS, NO_TABLES, SIXTY, as_own, as_python, drawn_number, error_of, pairs_of, run_examples, wrongs
)
from thirdcounts.base import tables
from thirdcounts.base.numbers import is_fraction
from thirdcounts.base.tables import (
    determinant, idle_table, is_idle, is_table, row_times, table_echelon, table_kernel, table_product, table_rank,
    table_scaled, table_solved, table_sum, table_trace, table_turned, table_undone
)
from thirdcounts.errors import InvalidNumber, InvalidOperation, InvalidTable, Refused

EXAMPLES = """
>>> A = ((1, 2), (3, (1, 2)))
>>> [table_product(A, ((1,), (0,))), table_scaled(A, (1, 2))[1], table_trace(A), determinant(A), row_times((1, 1), A), is_idle(((1, 0), (0, (1, 1))))]
[(((1, 1),), ((3, 1),)), ((3, 2), (1, 4)), (3, 2), (-11, 2), ((4, 1), (5, 2)), True]
>>> [table_undone(((2, 0), (1, 1))), table_rank(((1, 2), (2, 4))), table_echelon(((2, 4), (1, 2))), table_kernel(((1, 2), (2, 4)))]
[(((1, 2), (0, 1)), ((-1, 2), (1, 1))), 1, (((1, 1), (2, 1)),), (((1, 1), (-1, 2)),)]
>>> [table_solved(((1, 2), (2, 4)), (3, 6)), table_solved(((1, 2), (2, 4)), (3, 5)), table_solved(((0, 2, 1),), ((1, 2),)), table_kernel(((1, 0), (0, 1)))]
[((3, 1), (0, 1)), None, ((0, 1), (1, 4), (0, 1)), ()]
>>> table_undone(((1, 2), (2, 4)))
raises Refused(('determinant',))
"""

OF_SQUARES = [table_trace, determinant, table_undone]
OF_ONE = OF_SQUARES + [table_turned, table_rank, table_echelon, table_kernel]
OF_TWO = [table_sum, table_product]
FAR = 10 ** 200 + 7


def drawn(draw, height, width, size=5):
    """A table, often with rows that are sums of other ones, or with zeros."""
    rows = [[drawn_number(draw, size) if draw.random() < 0.7 else 0 for _ in range(width)] for _ in range(height)]
    for index in range(1, height):
        if draw.random() < 0.3:
            factor = draw.randint(-2, 2)
            rows[index] = [as_own(factor * as_python(entry)) for entry in rows[draw.randrange(index)]]
    return tuple([tuple(row) for row in rows])


def in_python(table):
    return [[as_python(entry) for entry in row] for row in table]


def by_sequences(table):
    """The determinant as the sum over all sequences of columns."""
    rows, total = in_python(table), Fraction(0)
    for columns in permutations(range(len(rows))):
        product = Fraction(1)
        for row, column in zip(rows, columns):
            product *= row[column]
        exchanged = [(a, b) for b in range(len(columns)) for a in range(b) if columns[a] > columns[b]]
        total += product * (-1) ** len(exchanged)
    return as_own(total)


def pairing(row, other):
    return sum([as_python(one) * as_python(two) for one, two in zip(row, other)])


def is_echelon(rows):
    leads = []
    for row in rows:
        places = [index for index, entry in enumerate(row) if entry != (0, 1)]
        if not places or row[places[0]] != (1, 1) or leads and leads[-1] >= places[0]:
            return False
        leads.append(places[0])
    return all(row[lead] == (0, 1) for index, row in enumerate(rows) for at, lead in enumerate(leads) if at != index)


def is_sum_of(row, echelon):
    """Whether a row is a sum of multiples of the rows of an echelon."""
    left = [as_python(entry) for entry in row]
    for member in echelon:
        lead = [index for index, entry in enumerate(member) if entry != (0, 1)][0]
        factor = left[lead]
        left = [entry - factor * as_python(further) for entry, further in zip(left, member)]
    return not any(left)


class Examples(unittest.TestCase):

    def test_examples(self):
        self.assertEqual(run_examples(self, EXAMPLES, dict(globals())), 4)

    def test_constant(self):
        self.assertEqual(tables.MAX_SIDE, 40)


class Judging(unittest.TestCase):

    def test_tables(self):
        wide, high, full = ((0,) * 40,), ((0,),) * 40, ((1,) * 40,) * 40
        for value in [((0,),), ((1, (1, 2)),), ((SIXTY,), (-SIXTY,)), (((FAR, 2),),), wide, high, full, (((1, 2), (3, 4)),)]:
            self.assertIs(is_table(value), True)
        for value in NO_TABLES:
            self.assertIs(is_table(value), False, value)
            self.assertIs(is_idle(value), False, value)

    def test_idle(self):
        for size in [1, 2, 7, 40]:
            table = idle_table(size)
            self.assertEqual(table, tuple([tuple([(int(a == b), 1) for b in range(size)]) for a in range(size)]))
            self.assertIs(is_idle(table), True)
        for value in [((1,),), (((1, 1),),), ((1, 0), ((0, 1), 1))]:
            self.assertIs(is_idle(value), True)
        wrong = [((0,),), ((1, 0),), ((1,), (0,)), ((1, 0), (0, 2)), ((1, 1), (0, 1)), ((0, 1), (1, 0)), ((1, 0), (0, (1, 2)))]
        for value in wrong + [((True,),), ((1, False), (0, 1)), [[1]], ((1, 0), (0, 1), (0, 0)), ((-1,),), ((1, 0, 0), (0, 1, 0))]:
            self.assertIs(is_idle(value), False, value)
        self.assertIs(is_idle(tuple([(0,) * at + (1,) + (0,) * (40 - at) for at in range(41)])), False)


class Refusing(unittest.TestCase):

    def test_tables(self):
        for call in OF_ONE:
            wrongs(self, call, NO_TABLES, InvalidTable, ...)
        for call in OF_TWO:
            wrongs(self, call, NO_TABLES, InvalidTable, ..., ((1,),))
            wrongs(self, call, NO_TABLES, InvalidTable, ((1,),), ...)
            wrongs(self, call, NO_TABLES, InvalidTable, ((1, 2), (3, 4)), ...)
        wrongs(self, table_scaled, NO_TABLES, InvalidTable, ..., 1)
        wrongs(self, table_scaled, NO_TABLES, InvalidTable, ..., True)

    def test_rows(self):
        wrongs(self, row_times, NO_ROWS, InvalidTable, ..., ((1,),))
        wrongs(self, row_times, NO_TABLES, InvalidTable, (1, 2, 3), ...)
        wrongs(self, table_solved, NO_TABLES, InvalidTable, ..., (1, 2, 3))
        wrongs(self, table_solved, NO_ROWS, InvalidTable, ((1,),), ...)

    def test_numbers(self):
        wrongs(self, table_scaled, NO_NUMBERS, InvalidNumber, ((1, 2),), ...)
        wrongs(self, idle_table, NO_NUMBERS + [0, 41, -1, SIXTY, (1, 1), (3, 1), (1, 2)], InvalidNumber, ...)

    def test_sizes(self):
        one, wide, high, many = ((1,),), ((1, 2),), ((1,), (2,)), ((1, 2), (3, 4), (5, 6))
        for pair in [(one, wide), (one, high), (wide, high), (high, wide), (many, wide), (wide, many)]:
            self.assertIs(type(error_of(table_sum, *pair)), InvalidOperation)
        for pair in [(wide, one), (high, high), (wide, wide), (many, many), (one, high), (wide, many)]:
            self.assertIs(type(error_of(table_product, *pair)), InvalidOperation)
        for pair in [((1,), high), ((1, 2), one), ((1, 2), many), ((1, 2), wide)]:
            self.assertIs(type(error_of(row_times, *pair)), InvalidOperation)
            self.assertIs(type(error_of(table_solved, *pair[::-1])), InvalidOperation)
        for call in OF_SQUARES:
            for table in [wide, high, many]:
                self.assertIs(type(error_of(call, table)), InvalidOperation)

    def test_no_undone_table(self):
        for table in [((0,),), ((1, 2), (2, 4)), ((0, 0), (0, 0)), ((0, 1), (0, 2)), ((1, 2, 3), (4, 5, 6), (7, 8, 9)), ((0,) * 40,) * 40]:
            error = error_of(table_undone, table)
            self.assertIs(type(error), Refused)
            self.assertEqual(error.reason, ("determinant",))

    def test_nothing_is_changed(self):
        for value in [[[1, 2], [3, 4]], [(1, 2)], {0: [1]}]:
            before = repr(value)
            for call in OF_ONE + [is_table, is_idle, idle_table]:
                error_of(call, value)
            for call in OF_TWO + [table_scaled, row_times, table_solved]:
                error_of(call, value, ((1,),))
                error_of(call, ((1,),), value)
            self.assertEqual(repr(value), before)


class Reckoning(unittest.TestCase):

    def each(self, many, seed, square=False):
        draw = random.Random(seed)
        for _ in range(many):
            height, width = draw.randint(1, 5), draw.randint(1, 5)
            yield draw, drawn(draw, height, height if square else width)

    def test_turned(self):
        self.assertEqual(table_turned(((1, 2, 3), (4, (5, 2), 6))), (((1, 1), (4, 1)), ((2, 1), (5, 2)), ((3, 1), (6, 1))))
        for _, table in self.each(50, 1):
            self.assertEqual(in_python(table_turned(table)), [list(column) for column in zip(*in_python(table))])
            self.assertEqual(table_rank(table_turned(table)), table_rank(table))

    def test_sums_and_multiples(self):
        for draw, table in self.each(60, 2):
            other, factor = drawn(draw, len(table), len(table[0])), drawn_number(draw, 9)
            pairs = zip(in_python(table), in_python(other))
            self.assertEqual(in_python(table_sum(table, other)), [[a + b for a, b in zip(*rows)] for rows in pairs])
            wanted = [[as_python(factor) * entry for entry in row] for row in in_python(table)]
            self.assertEqual(in_python(table_scaled(table, factor)), wanted)

    def test_products(self):
        for draw, table in self.each(100, 3):
            other = drawn(draw, len(table[0]), draw.randint(1, 5))
            product = table_product(table, other)
            columns = list(zip(*other))
            self.assertEqual(in_python(product), [[pairing(row, column) for column in columns] for row in table])
            self.assertTrue(all(is_fraction(entry) for row in product for entry in row))
            self.assertEqual([row_times(row, other) for row in table], list(product))
            self.assertEqual(table_turned(product), table_product(table_turned(other), table_turned(table)))

    def test_trace_and_determinant(self):
        for draw, table in self.each(80, 4, square=True):
            self.assertEqual(as_python(table_trace(table)), sum([row[at] for at, row in enumerate(in_python(table))]))
            self.assertEqual(determinant(table), by_sequences(table))
            self.assertEqual(determinant(table_turned(table)), determinant(table))
        self.assertEqual(determinant(((0, 1), (1, 0))), (-1, 1))
        self.assertEqual(determinant(((0, 0, 1), (1, 0, 0), (0, 1, 0))), (1, 1))
        self.assertEqual(determinant(((0, 0), (0, 0))), (0, 1))
        self.assertEqual(determinant((((FAR, 2),),)), (FAR, 2))

    def test_undone(self):
        found = 0
        for _, table in self.each(150, 5, square=True):
            if determinant(table) == (0, 1):
                self.assertIs(type(error_of(table_undone, table)), Refused)
                self.assertLess(table_rank(table), len(table))
            else:
                found += 1
                undone = table_undone(table)
                self.assertEqual(table_product(table, undone), idle_table(len(table)))
                self.assertEqual(table_product(undone, table), idle_table(len(table)))
                self.assertEqual(table_undone(undone), table_scaled(table, 1))
                self.assertEqual(table_rank(table), len(table))
        self.assertGreater(found, 50)

    def test_echelons(self):
        for draw, table in self.each(200, 6):
            echelon = table_echelon(table)
            self.assertTrue(is_echelon(echelon))
            self.assertEqual(len(echelon), table_rank(table))
            self.assertTrue(all(is_sum_of(row, echelon) for row in table))
            if echelon:
                self.assertEqual(table_echelon(echelon), echelon)
                moved = list(table)
                draw.shuffle(moved)
                self.assertEqual(table_echelon(tuple(moved)), echelon)
            for row in echelon:
                self.assertIsNotNone(table_solved(table_turned(table), row))
        self.assertEqual(table_echelon(((0, 0), (0, 0))), ())
        self.assertEqual(table_echelon(((0, -2, 4), (0, 0, 0))), (((0, 1), (1, 1), (-2, 1)),))

    def test_kernels(self):
        for _, table in self.each(200, 7):
            kernel = table_kernel(table)
            self.assertTrue(is_echelon(kernel))
            self.assertEqual(len(kernel), len(table[0]) - table_rank(table))
            self.assertTrue(all(pairing(row, further) == 0 for row in kernel for further in table))
        self.assertEqual(table_kernel(((0, 0),)), idle_table(2))
        self.assertEqual(table_kernel(((0,) * 40,)), idle_table(40))
        self.assertEqual(table_kernel(((1, 1, 1),)), (((1, 1), (0, 1), (-1, 1)), ((0, 1), (1, 1), (-1, 1))))
        self.assertEqual(table_kernel(((1,), (0,))), ())

    def test_equations(self):
        solved = 0
        for draw, table in self.each(300, 8):
            row = tuple([drawn_number(draw, 3) for _ in table])
            if draw.random() < 0.6:
                row = row_times(tuple([drawn_number(draw, 3) for _ in table[0]]), table_turned(table))
            found = table_solved(table, row)
            wide = table_rank(tuple([(*left, right) for left, right in zip(table, row)]))
            self.assertEqual(found is None, wide > table_rank(table))
            if found is not None:
                solved += 1
                self.assertEqual(row_times(found, table_turned(table)), tuple([as_own(as_python(entry)) for entry in row]))
                leads = [[at for at, entry in enumerate(further) if entry != (0, 1)][0] for further in table_echelon(table)]
                self.assertTrue(all(entry == (0, 1) for at, entry in enumerate(found) if at not in leads))
        self.assertGreater(solved, 100)
        self.assertEqual(table_solved(((0, 0),), (0,)), ((0, 1), (0, 1)))
        self.assertIsNone(table_solved(((0, 0),), (1,)))
        self.assertEqual(table_solved(((2,), (4,)), (1, 2)), ((1, 2),))
        self.assertEqual(table_solved(((1,) * 40,), (5,)), ((5, 1),) + ((0, 1),) * 39)

    def test_integers_are_fractions(self):
        table, other = ((1, -2), (0, 3)), ((4, 1), (1, 5))
        pairs = tuple([pairs_of(row) for row in table]), tuple([pairs_of(row) for row in other])
        for call in OF_TWO:
            self.assertEqual(call(*pairs), call(table, other))
        for call in OF_ONE:
            self.assertEqual(call(pairs[0]), call(table))
        self.assertEqual(table_scaled(pairs[0], (3, 1)), table_scaled(table, 3))
        self.assertEqual(row_times(((1, 1), (2, 1)), pairs[0]), row_times((1, 2), table))
        self.assertEqual(table_solved(pairs[0], ((1, 1), (2, 1))), table_solved(table, (1, 2)))

    def test_greatest_sizes(self):
        draw = random.Random(9)
        table = tuple([tuple([draw.randint(-9, 9) for _ in range(40)]) for _ in range(40)])
        undone = table_undone(table)
        self.assertIs(is_idle(table_product(table, undone)), True)
        self.assertIs(is_idle(table_product(undone, table)), True)
        self.assertEqual(as_python(determinant(table)) * as_python(determinant(undone)), 1)
        self.assertEqual(table_rank(((1,),) * 40), 1)
        self.assertEqual(len(table_kernel(table[:15])), 25)
        slopes = tuple([tuple([(1, row + column + 1) for column in range(40)]) for row in range(40)])
        self.assertIs(is_idle(table_product(slopes, table_undone(slopes))), True)
        far = ((SIXTY, -SIXTY), ((LONG, 1), (1, LONG)))
        self.assertIs(is_idle(table_product(far, table_undone(far))), True)

    def test_what_is_not_true(self):
        one, other = ((1, 0), (0, 0)), ((0, 0), (0, 1))
        self.assertEqual(table_rank(table_product(one, other)), 0)
        step = ((0, 1), (0, 0))
        self.assertEqual(table_echelon(table_product(step, step)), ())


if __name__ == "__main__":
    unittest.main()
