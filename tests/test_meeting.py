"""Points 17.1 to 17.7, 0.14 and 0.18."""

import inspect
import random
import unittest
from collections import Counter
from fractions import Fraction
from itertools import combinations, product
from unittest import mock

from tests.samples import CUBE, PAIRS, SQUARE, schemes
from tests.support import as_own, as_python, error_of, run_examples
from tests.test_bounds import kinds_sets
from tests.test_counting import by_spaces, drawn_lots, has_integers
from tests.test_fusions import partings_of
from thirdcounts.base.tables import table_product, table_rank
from thirdcounts.errors import InvalidKinds, InvalidLot, InvalidOperation, InvalidParting, InvalidScheme, TooMany
from thirdcounts.lots import meeting
from thirdcounts.lots.counting import dual_counts, inner_counts, outer_counts
from thirdcounts.lots.meeting import (
    MOST_GREATEST, are_across, common_number, does_keep, each_greatest, greatest_lot, greatest_size, is_equal_parting, is_even_lot,
    is_greatest_lot, is_points_parting, is_tight_lots, means_table, pair_sum, parting_numbers, rings_of, tight_lots
)
from thirdcounts.made.products import inside, power
from thirdcounts.pairs.counts import counts_of
from thirdcounts.pairs.schemes import Scheme
from thirdcounts.parts.closed import classes_of, closed_sets

EXAMPLES = """
>>> [pair_sum(PAIRS, (0, 1, 2, 3), (0, 7)), are_across(PAIRS, (0, 1, 2, 3), (0, 7)), pair_sum(CUBE, (0, 3, 5, 6), (0, 7)), are_across(CUBE, (0, 3, 5, 6), (0, 7)), are_across(SQUARE, (0, 1, 2), (0, 4, 8))]
[(1, 1), False, (1, 1), True, True]
>>> [greatest_size(PAIRS, (1,)), greatest_size(PAIRS, (2,)), len(list(each_greatest(PAIRS, (2,)))), is_greatest_lot(PAIRS, (1,), (0, 1, 2, 3)), tight_lots(PAIRS, (1,)), list(each_greatest(CUBE, (2,)))]
[4, 2, 15, True, None, [(0, 3, 5, 6), (1, 2, 4, 7)]]
>>> [is_tight_lots(CUBE, (2,), ((0, 3, 5, 6), (0, 1))), is_equal_parting(CUBE, ((0, 1), (2, 3, 4, 5, 6, 7))), parting_numbers(CUBE, ((0, 3, 5, 6), (1, 2, 4, 7)))[1], rings_of(CUBE, (0, 1)), is_even_lot(PAIRS, (0, 1))]
[True, False, ((0, 3), (3, 0)), ((0, 1), (2, 3, 4, 5), (6, 7)), False]
>>> parting_numbers(CUBE, ((0, 1), (2, 3, 4, 5, 6, 7)))
raises InvalidOperation
"""

EVEN, ENDS, ODD = (0, 3, 5, 6), (0, 7), (1, 2, 4, 7)


def keeps_by_hand(scheme, kinds, lot):
    return all(scheme.table[x][y] in kinds for x, y in combinations(lot, 2))


def rest_of(scheme, kinds):
    return tuple([kind for kind in range(1, scheme.most + 1) if kind not in kinds])


def all_greatest(scheme, kinds):
    """All greatest lots, by going up from points to pairs and so on."""
    found = [(point,) for point in range(scheme.size)]
    while True:
        longer = [lot + (point,) for lot in found for point in range(lot[-1] + 1, scheme.size) if all(scheme.table[point][x] in kinds for x in lot)]
        if not longer:
            return found
        found = longer


def drawn_pairs():
    draw = random.Random(19)
    told = {}
    for scheme, lot in drawn_lots():
        told.setdefault(scheme.table, []).append((scheme, lot))
    for pairs in told.values():
        for _ in range(6):
            (scheme, one), (_, other) = draw.choice(pairs), draw.choice(pairs)
            yield scheme, one, other


def drawn_points_parting(draw, size):
    lots = {}
    many = draw.randint(1, size)
    for point in range(size):
        lots.setdefault(draw.randrange(many), []).append(point)
    return tuple(sorted([tuple(lot) for lot in lots.values()]))


def some_partings():
    """Partings of the points of many schemes, closed classes and rings among them."""
    draw = random.Random(23)
    for scheme in schemes():
        counts = counts_of(scheme)
        yield scheme, tuple([(point,) for point in range(scheme.size)])
        yield scheme, (tuple(range(scheme.size)),)
        for closed in closed_sets(counts)[:4]:
            yield scheme, classes_of(scheme, closed)
        for _ in range(3):
            yield scheme, drawn_points_parting(draw, scheme.size)
            lot = tuple(sorted(draw.sample(range(scheme.size), draw.randint(1, scheme.size))))
            yield scheme, rings_by_hand(scheme, lot)
        yield scheme, rings_by_hand(scheme, (draw.randrange(scheme.size),))


def rings_by_hand(scheme, lot):
    rows = [tuple(sorted(Counter(scheme.table[x][y] for y in lot).items())) for x in range(scheme.size)]
    return tuple(sorted([tuple([x for x in range(scheme.size) if rows[x] == row]) for row in set(rows)]))


def numbers_by_hand(scheme, parting):
    """At [kind][part][part] the number of points of the second part round a point of the first one, `None` if they differ."""
    table = []
    for kind in range(scheme.most + 1):
        rows = []
        for part in parting:
            row = []
            for other in parting:
                found = {sum(scheme.table[x][y] == kind for y in other) for x in part}
                if len(found) > 1:
                    return None
                row.append(found.pop())
            rows.append(tuple(row))
        table.append(tuple(rows))
    return tuple(table)


class Examples(unittest.TestCase):

    def test_examples(self):
        self.assertEqual(run_examples(self, EXAMPLES, dict(globals())), 4)
        self.assertEqual(MOST_GREATEST, 2000)


class TwoLots(unittest.TestCase):

    def test_pair_sums(self):
        found = Counter()
        for scheme, one, other in drawn_pairs():
            a, c = [[as_python(entry) for entry in inner_counts(scheme, lot)] for lot in (one, other)]
            told = sum(x * y / v for x, y, v in zip(a, c, scheme.valencies))
            self.assertEqual(pair_sum(scheme, one, other), as_own(told))
            mean = Fraction(len(one) * len(other), scheme.size)
            self.assertGreaterEqual(told, mean)
            across = are_across(scheme, one, other)
            self.assertIs(across, told == mean)
            found[across] += 1
            self.assertEqual(common_number(one, other), len(set(one) & set(other)))
            if across:
                self.assertEqual(common_number(one, other), mean)
            if has_integers(scheme):
                b, e = [[as_python(entry) for entry in dual_counts(scheme, lot)] for lot in (one, other)]
                many = by_spaces(scheme)[2]
                self.assertEqual(told * scheme.size, sum(x * y / m for x, y, m in zip(b, e, many)))
                self.assertIs(across, all(x == 0 or y == 0 for x, y in list(zip(b, e))[1:]))
        self.assertGreater(min(found.values()), 40)

    def test_all_points_are_across(self):
        ring = Scheme.by_ring(5)
        for lot in [(0,), (0, 1), (0, 2), (0, 1, 2)]:
            self.assertIs(are_across(ring, lot, (0, 1, 2, 3, 4)), True)
            self.assertIs(are_across(ring, lot, lot), False)
        self.assertIs(are_across(Scheme.lone(1), (0,), (0,)), True)

    def test_common_number(self):
        self.assertEqual([common_number((0, 31), (31,)), common_number((1, 2, 3), (2, 3, 4)), common_number((0,), (1,))], [1, 2, 0])
        for wrong in [(), (32,), (-1, 2), (1, 1), (2, 1), [1], (True,), 1, None, (1, 32), (0, 10 ** 99)]:
            self.assertIs(type(error_of(common_number, wrong, (1,))), InvalidLot)
            self.assertIs(type(error_of(common_number, (1,), wrong)), InvalidLot)

    def test_not_true(self):
        self.assertEqual(common_number((0, 1), (0, 2, 4, 6)) * 8, 2 * 4)
        self.assertIs(are_across(CUBE, (0, 1), (0, 2, 4, 6)), False)


class Greatest(unittest.TestCase):

    def each(self):
        draw = random.Random(29)
        for scheme in schemes():
            told = kinds_sets(counts_of(scheme))
            for kinds in told if len(told) <= 8 else [(), told[-1]] + draw.sample(told, 5):
                yield scheme, kinds

    def test_greatest_lots(self):
        draw = random.Random(31)
        for scheme, kinds in self.each():
            if scheme.size > 12 and len(kinds) > 2 or scheme.size > 16 and len(kinds) == scheme.most:
                continue
            wanted = all_greatest(scheme, kinds)
            self.assertEqual(greatest_size(scheme, kinds), len(wanted[0]))
            self.assertIn(greatest_lot(scheme, kinds), wanted)
            if len(wanted) > 2000:
                self.assertEqual(error_of(next, each_greatest(scheme, kinds)).limit, 2000)
            else:
                self.assertEqual(list(each_greatest(scheme, kinds)), wanted)
            for lot in draw.sample(wanted, min(5, len(wanted))):
                self.assertIs(is_greatest_lot(scheme, kinds, lot), True)
                self.assertIs(is_greatest_lot(scheme, kinds, lot[1:]), False)
                self.assertIs(does_keep(scheme, kinds, lot), True)
            some = tuple(sorted(draw.sample(range(scheme.size), len(wanted[0]))))
            self.assertIs(is_greatest_lot(scheme, kinds, some), some in wanted)
            self.assertIs(does_keep(scheme, kinds, some), keeps_by_hand(scheme, kinds, some))

    def test_generator(self):
        told = each_greatest(CUBE, (2,))
        self.assertTrue(inspect.isgenerator(told))
        self.assertEqual([next(told), next(told), next(told, None)], [EVEN, ODD, None])
        for arguments, error in [((None, None), InvalidScheme), ((CUBE, (4,)), InvalidKinds), ((CUBE, None), InvalidKinds)]:
            self.assertIs(type(error_of(next, each_greatest(*arguments))), error)

    def test_many_lots(self):
        with mock.patch.object(meeting, "MOST_GREATEST", 15):
            self.assertEqual(len(list(each_greatest(PAIRS, (2,)))), 15)
        with mock.patch.object(meeting, "MOST_GREATEST", 14):
            self.assertEqual(error_of(next, each_greatest(PAIRS, (2,))).limit, 14)
        for many, right in [(10, True), (11, False), (16, False)]:
            scheme = inside(Scheme.lone(2), Scheme.lone(many))
            self.assertEqual(greatest_size(scheme, (2,)), many)
            error = error_of(lambda: list(each_greatest(scheme, (2,))))
            if right:
                self.assertIs(error, None)
                self.assertEqual(len(list(each_greatest(scheme, (2,)))), 2 ** many)
            else:
                self.assertEqual((type(error), error.limit), (TooMany, 2000))
        self.assertEqual(len(list(each_greatest(inside(Scheme.lone(3), Scheme.lone(6)), (2,)))), 729)
        self.assertEqual(error_of(next, each_greatest(inside(Scheme.lone(3), Scheme.lone(7)), (2,))).limit, 2000)
        self.assertEqual(list(each_greatest(Scheme.lone(32), ())), [(point,) for point in range(32)])
        self.assertEqual(list(each_greatest(Scheme.lone(32), (1,))), [tuple(range(32))])
        self.assertEqual(list(each_greatest(Scheme.lone(1), ())), [(0,)])

    def test_wide_schemes(self):
        words = Scheme.by_places(5, 2)
        for kinds, size in {(1,): 2, (1, 2): 6, (2, 4): 16, (3, 4, 5): 4, (5,): 2, (1, 3, 5): 2, (1, 2, 3, 4): 16}.items():
            self.assertEqual(greatest_size(words, kinds), size)
            self.assertTrue(is_greatest_lot(words, kinds, greatest_lot(words, kinds)))
        self.assertEqual(greatest_size(Scheme.by_sharing(8, 2), (1,)), 7)
        self.assertEqual(greatest_size(Scheme.by_sharing(8, 2), (2,)), 4)
        self.assertEqual(greatest_size(power(Scheme.by_ring(5), 2), (1, 2, 3)), all_greatest_size(power(Scheme.by_ring(5), 2), (1, 2, 3)))

    def test_tight_lots(self):
        found = Counter()
        for scheme, kinds in self.each():
            if scheme.size > 16 and len(kinds) > 2:
                continue
            rest = rest_of(scheme, kinds)
            ones, others = greatest_lot(scheme, kinds), greatest_lot(scheme, rest)
            self.assertLessEqual(len(ones) * len(others), scheme.size)
            tight = len(ones) * len(others) == scheme.size
            found[tight] += 1
            self.assertEqual(pair_sum(scheme, ones, others), (1, 1))
            self.assertIs(is_tight_lots(scheme, kinds, (ones, others)), tight)
            told = tight_lots(scheme, kinds)
            self.assertIs(told is not None, tight)
            if tight:
                self.assertIs(is_tight_lots(scheme, kinds, told), True)
                self.assertIs(are_across(scheme, *told), True)
                self.assertIs(is_tight_lots(scheme, rest, told[::-1]), True)
                if scheme.size <= 12:
                    for one, other in product(all_greatest(scheme, kinds)[:20], all_greatest(scheme, rest)[:20]):
                        self.assertEqual(common_number(one, other), 1)
                        self.assertIs(is_tight_lots(scheme, kinds, (one, other)), True)
        self.assertGreater(min(found.values()), 40)

    def test_is_tight_lots(self):
        for value, wanted in [
            ((EVEN, (0, 1)), True), ((ODD, (0, 1)), True), ((EVEN, (0, 7)), True), ((EVEN, (0, 3)), False), (((0, 1), EVEN), False), ((EVEN, (0,)), False),
            ((EVEN[:2], (0, 1, 3, 2)), False), ((EVEN,), False), ([EVEN, (0, 1)], False), ((list(EVEN), (0, 1)), False), ((EVEN, (0, True)), False), ((), False), (None, False),
            ((EVEN, (0, 1), ()), False), ((EVEN, (1, 0)), False), ((EVEN, (0, 8)), False), ((EVEN, ()), False), (((), EVEN), False), ((EVEN, (0, 1, 2)), False), (((0, 1, 2, 3), (0, 1)), False),
            (((0, 7), (0, 1, 2, 4)), False),
        ]:
            self.assertIs(is_tight_lots(CUBE, (2,), value), wanted)
        self.assertIs(is_tight_lots(CUBE, (), ((0,), tuple(range(8)))), True)
        self.assertEqual(tight_lots(Scheme.lone(1), ()), ((0,), (0,)))

    def test_does_keep(self):
        self.assertIs(does_keep(CUBE, (), (3,)), True)
        self.assertIs(does_keep(CUBE, (2,), EVEN), True)
        self.assertIs(does_keep(CUBE, (1, 3), EVEN), False)
        for arguments, error in [((None, (4,), ()), InvalidScheme), ((CUBE, (4,), ()), InvalidKinds), ((CUBE, (2,), ()), InvalidLot), ((CUBE, (2,), (0, 8)), InvalidLot)]:
            self.assertIs(type(error_of(does_keep, *arguments)), error)


def all_greatest_size(scheme, kinds):
    return len(all_greatest(scheme, kinds)[0])


class Partings(unittest.TestCase):

    def test_equal_partings(self):
        found = Counter()
        for scheme, parting in some_partings():
            wanted = numbers_by_hand(scheme, parting)
            self.assertIs(is_points_parting(scheme, parting), True)
            self.assertIs(is_equal_parting(scheme, parting), wanted is not None)
            found[wanted is not None] += 1
            if wanted is None:
                self.assertIs(type(error_of(parting_numbers, scheme, parting)), InvalidOperation)
            else:
                self.assertEqual(parting_numbers(scheme, parting), wanted)
        self.assertGreater(min(found.values()), 100)

    def test_means_tables(self):
        for scheme, parting in some_partings():
            means = means_table(scheme, parting)
            part = {point: lot for lot in parting for point in lot}
            points = range(scheme.size)
            self.assertEqual(means, tuple([tuple([(1, len(part[x])) if part[x] == part[y] else (0, 1) for y in points]) for x in points]))
            if scheme.size <= 8:
                same = []
                for kind in range(scheme.most + 1):
                    table = tuple([tuple([int(entry == kind) for entry in row]) for row in scheme.table])
                    same.append(table_product(means, table) == table_product(table, means))
                self.assertIs(all(same), is_equal_parting(scheme, parting))

    def test_all_partings(self):
        for scheme in [CUBE, Scheme.by_ring(6), Scheme.by_ring(5), Scheme.by_sharing(4, 2)]:
            for lots in partings_of(list(range(scheme.size)))[::7 if scheme.size > 6 else 1]:
                parting = tuple(sorted([tuple(sorted(lot)) for lot in lots]))
                self.assertIs(is_equal_parting(scheme, parting), numbers_by_hand(scheme, parting) is not None)

    def test_is_points_parting(self):
        right = (EVEN, ODD)
        for value in [
            (EVEN,), (ODD, EVEN), (EVEN, ODD, ()), [EVEN, ODD], (list(EVEN), ODD), (EVEN, (1, 2, 4, 6, 7)), (EVEN, (1, 2, 4, 8)), (EVEN, (1, 2, 4)), EVEN, (), ((),), None,
            (EVEN, (2, 1, 4, 7)), ((0, 3, 5, 6), (True, 2, 4, 7)), (EVEN, (1, 2, 4, 7, 8)), ((0, 1, 2, 3, 4, 5, 6),), (tuple(range(9)),), (((0, 1),),),
        ]:
            self.assertIs(is_points_parting(CUBE, value), False)
            self.assertIs(is_equal_parting(CUBE, value), False)
            for call in [parting_numbers, means_table]:
                self.assertIs(type(error_of(call, CUBE, value)), InvalidParting)
        self.assertIs(is_equal_parting(CUBE, right), True)
        self.assertIs(is_points_parting(Scheme.lone(1), ((0,),)), True)
        self.assertEqual(parting_numbers(Scheme.lone(1), ((0,),)), (((1,),),))


class Rings(unittest.TestCase):

    def test_rings(self):
        found = Counter()
        for scheme, lot in drawn_lots():
            rings = rings_of(scheme, lot)
            self.assertEqual(rings, rings_by_hand(scheme, lot))
            self.assertIs(is_even_lot(scheme, lot), is_equal_parting(scheme, rings))
            self.assertTrue(all(set(ring) <= set(lot) or not set(ring) & set(lot) for ring in rings))
            found[is_even_lot(scheme, lot)] += 1
            if has_integers(scheme):
                table = tuple([outer_counts(scheme, lot, point) for point in range(scheme.size)])
                many = len([entry for entry in dual_counts(scheme, lot) if entry != (0, 1)])
                self.assertEqual(table_rank(table), many)
                self.assertGreaterEqual(len(rings), many)
        self.assertGreater(min(found.values()), 40)

    def test_two_rings(self):
        for scheme in [CUBE, PAIRS, SQUARE, Scheme.by_ring(6), Scheme.by_ring(5), Scheme.by_sharing(4, 2)]:
            points, two = range(scheme.size), 0
            for many in range(1, scheme.size):
                for lot in combinations(points, many):
                    rest = tuple([point for point in points if point not in lot])
                    parts = tuple(sorted([lot, rest]))
                    wanted = is_equal_parting(scheme, parts)
                    rings = rings_of(scheme, lot)
                    self.assertIs(len(rings) == 2, wanted)
                    if wanted:
                        two += 1
                        self.assertTrue(rings == parts and is_even_lot(scheme, lot))
            self.assertGreaterEqual(two, 0)
        self.assertEqual(rings_of(CUBE, tuple(range(8))), (tuple(range(8)),))

    def test_not_true(self):
        self.assertIs(is_even_lot(PAIRS, (0, 1)), False)
        self.assertIs(is_even_lot(CUBE, (0, 1)), True)
        self.assertIs(is_even_lot(PAIRS, (3,)), True)
        self.assertEqual(rings_of(PAIRS, (0,)), ((0,), (1, 2, 3, 4, 5, 6), (7, 8, 9)))


if __name__ == "__main__":
    unittest.main()
