"""Points 5.1 to 5.6, and 0.11."""

import random
import unittest
from fractions import Fraction
from itertools import permutations, product

from tests.places import with_entry
from tests.samples import CUBE, PAIRS, SEVEN, TEN, plain_counts, schemes
from tests.support import LONG, SIXTY, as_own, as_python, drawn_number, error_of, pairs_of, run_examples
from thirdcounts.base.polys import poly_rest
from thirdcounts.errors import InvalidCounts, InvalidNumber, TooMany
from thirdcounts.pairs import counts as module
from thirdcounts.pairs.counts import (
    counts_fault, counts_of, counts_order, counts_renumbered, is_counts, is_counts_fault, is_counts_order, kinds_pairing, kinds_power,
    kinds_product, kinds_undone, kinds_value, least_poly, lone_counts, points_of, valencies_of, walks_by_kinds
)
from thirdcounts.pairs.schemes import Scheme

EXAMPLES = """
>>> TEN = (((1, 0, 0), (0, 3, 0), (0, 0, 6)), ((0, 1, 0), (1, 0, 2), (0, 2, 4)), ((0, 0, 1), (0, 1, 2), (1, 2, 3)))
>>> SEVEN = (((1, 0, 0), (0, 4, 0), (0, 0, 2)), ((0, 1, 0), (1, 1, 2), (0, 2, 0)), ((0, 0, 1), (0, 4, 0), (1, 0, 1)))
>>> [is_counts(TEN), is_counts(SEVEN), points_of(SEVEN), counts_fault((((1, 0), (0, 3)), ((0, 1), (1, 1)))), walks_by_kinds(TEN, 1, 5)]
[True, True, 7, ('sums', 1, 1), (12, 33, 22)]
>>> [least_poly(TEN, (0, 1, 0)), kinds_undone(TEN, (0, 1, 0)), kinds_undone(SEVEN, (0, 1, 0)), kinds_product(TEN, (0, 1, 0), (0, 0, (1, 2)))]
[((6, 1), (-5, 1), (-2, 1), (1, 1)), ((1, 3), (1, 3), (-1, 6)), None, ((0, 1), (1, 1), (1, 1))]
>>> [lone_counts(4), kinds_pairing(TEN, (1, 1, 1), (0, 1, (-1, 2))), counts_order(TEN, SEVEN)]
[(((1, 0), (0, 3)), ((0, 1), (1, 2))), (0, 1), None]
"""

ARITY = {"zero": 2, "valency": 2, "exchange": 3, "weight": 3, "sums": 2, "bracket": 4}


def is_broken(table, rule, places):
    """Whether the rule does not hold, as the document tells it."""
    kinds = range(len(table))

    def p(i, j, k):
        return table[k][i][j]

    def v(i):
        return p(i, i, 0)

    if rule == "zero":
        j, k = places
        return p(0, j, k) != (j == k)
    if rule == "valency":
        i, j = places
        return p(i, j, 0) != 0 if i != j else p(i, j, 0) < 1
    if rule == "exchange":
        i, j, k = places
        return p(i, j, k) != p(j, i, k)
    if rule == "weight":
        i, j, k = places
        return v(k) * p(i, j, k) != v(i) * p(k, j, i)
    if rule == "sums":
        i, k = places
        return sum(p(i, j, k) for j in kinds) != v(i)
    i, j, l, k = places
    return sum(p(i, j, a) * p(a, l, k) for a in kinds) != sum(p(j, l, a) * p(i, a, k) for a in kinds)


def broken(table):
    """All faults, rule by rule, by ascending indices."""
    for rule, many in ARITY.items():
        for places in product(range(len(table)), repeat=many):
            if is_broken(table, rule, places):
                yield (rule, *places)


def drawn_sum(draw, counts):
    return tuple([drawn_number(draw, 4) if draw.random() < 0.8 else 0 for _ in counts])


def product_by_hand(counts, one, other):
    kinds = range(len(counts))
    a, b = [as_python(entry) for entry in one], [as_python(entry) for entry in other]
    return tuple([as_own(Fraction(sum(a[i] * b[j] * counts[k][i][j] for i in kinds for j in kinds))) for k in kinds])


def kind_zero(counts):
    return pairs_of((1,) + (0,) * (len(counts) - 1))


def with_pairs(row):
    return tuple([as_own(as_python(entry)) for entry in row])


def nearly_counts():
    """Tables that keep all rules ahead of the last one, and break it: a kind can be made of two that do not fit."""
    for one, other in product(range(1, 5), repeat=2):
        for part in range(0, 5):
            # v is (1, one, other); the number p(1, 1; 1) is free, all others follow from it.
            low = one - 1 - part
            if low < 0 or low * one % other:
                continue
            p_112 = low * one // other
            p_122 = one - p_112
            p_222 = other - 1 - p_122
            p_121, p_221 = low, p_122 * other // one if p_122 * other % one == 0 else -1
            if min(p_122, p_222, p_221) < 0 or p_121 + p_221 != other:
                continue
            yield (
                ((1, 0, 0), (0, one, 0), (0, 0, other)), ((0, 1, 0), (1, part, p_121), (0, p_121, p_221)),
                ((0, 0, 1), (0, p_112, p_122), (1, p_122, p_222)),
            )


class Examples(unittest.TestCase):

    def test_examples(self):
        self.assertEqual(run_examples(self, EXAMPLES, dict(globals())), 3)

    def test_constants(self):
        told = module.MAX_MOST, module.MAX_COUNT, module.MOST_STEPS, module.MOST_POWER, module.MAX_ORDERED
        self.assertEqual(told, (10, 10 ** 12, 200, 60, 7))


class Rules(unittest.TestCase):

    def check(self, table):
        faults = list(broken(table))
        self.assertEqual(counts_fault(table), faults[0] if faults else None)
        self.assertIs(is_counts(table), not faults)
        return faults

    def test_counts(self):
        self.assertGreater(len(plain_counts()), 60)
        for counts in plain_counts():
            self.assertIs(is_counts(counts), True)
            self.assertIsNone(counts_fault(counts))
            if len(counts) < 6:
                self.assertEqual(self.check(counts), [])

    def test_each_entry(self):
        for counts in [TEN, SEVEN, lone_counts(4), counts_of(CUBE), (((1,),),)]:
            size = len(counts)
            for i, j, k in product(range(size), repeat=3):
                for step in (-1, 1, 7):
                    entry = counts[k][i][j] + step
                    if entry >= 0:
                        self.assertTrue(self.check(with_entry(counts, entry, k, i, j)))

    def test_drawn_tables(self):
        draw = random.Random(51)
        for _ in range(300):
            size = draw.randint(1, 3)
            self.check(tuple([tuple([tuple([draw.randint(0, 2) for _ in range(size)]) for _ in range(size)]) for _ in range(size)]))

    def test_two_entries(self):
        draw = random.Random(52)
        for _ in range(200):
            counts = draw.choice([TEN, SEVEN, counts_of(CUBE), counts_of(Scheme.by_ring(7))])
            size = len(counts)
            for _ in range(2):
                i, j, k = [draw.randrange(size) for _ in range(3)]
                counts = with_entry(counts, draw.randint(0, 3), k, i, j)
                if draw.random() < 0.5:
                    counts = with_entry(counts, counts[k][i][j], k, j, i)
            self.check(counts)

    def test_brackets_alone(self):
        for table in nearly_counts():
            self.assertEqual([fault for fault in self.check(table) if fault[0] != "bracket"], [])
        draw = random.Random(53)
        found = [self.check(drawn_symmetric(draw)) for _ in range(150)]
        self.assertTrue(all(fault[0] == "bracket" for faults in found for fault in faults))
        self.assertGreater(len([faults for faults in found if faults]), 50)

    def test_more_kinds(self):
        """Five kinds beside 0 with the counts of nine times nine points, all valencies 16, and what bends them."""
        draw, kinds = random.Random(62), range(1, 6)
        found = 0
        for _ in range(100):
            numbers = {places: {1: 7, 2: 2, 3: 4}[len(set(places))] for places in product(kinds, repeat=3)}
            for _ in range(draw.randint(0, 2)):
                row = draw.choice([(1, -1, 0, 0, 0), (0, 0, 1, -1, 0), (0, 1, 1, -2, 0), (1, 0, -1, 1, -1), (0, 0, 0, 1, -1), (1, -1, 1, -1, 0)])
                sign = draw.choice([1, -1])
                for i, j, k in numbers:
                    numbers[i, j, k] += sign * row[i - 1] * row[j - 1] * row[k - 1]
            table = [[[0] * 6 for _ in range(6)] for _ in range(6)]
            for i in range(6):
                table[i][0][i] = table[i][i][0] = 1
                table[0][i][i] = 16 if i else 1
            for (i, j, k), entry in numbers.items():
                table[k][i][j] = entry
            if min(numbers.values()) >= 0:
                faults = self.check(tuple([tuple([tuple(row) for row in square]) for square in table]))
                self.assertTrue(all(fault[0] == "bracket" for fault in faults))
                found += bool(faults)
        self.assertGreater(found, 10)

    def test_each_fault(self):
        draw = random.Random(54)
        tables = [TEN, with_entry(TEN, 1, 1, 1, 1), with_entry(SEVEN, 0, 0, 0, 0), (((1, 0), (0, 3)), ((0, 1), (1, 1))), (((0,),),)]
        tables += [drawn_symmetric(draw) for _ in range(2)]
        for table in tables:
            faults = set(broken(table))
            for rule, many in ARITY.items():
                for places in product(range(-1, len(table) + 1), repeat=many):
                    self.assertIs(is_counts_fault(table, (rule, *places)), (rule, *places) in faults)
                self.assertIs(is_counts_fault(table, (rule,) + (0,) * (many + 1)), False)
                self.assertIs(is_counts_fault(table, (rule,) + (0,) * (many - 1)), False)
        table = with_entry(TEN, 5, 1, 1, 1)
        self.assertIs(is_counts_fault(table, ("sums", 1, 1)), True)
        for value in [("sums", True, 1), ("sums", 1, True), ["sums", 1, 1], ("sums", (1, 1), 1), ("Sums", 1, 1), (), ("sums",), "sums"]:
            self.assertIs(is_counts_fault(table, value), False)

    def test_bounds(self):
        top = 10 ** 12
        self.assertIs(is_counts((((1, 0), (0, top)), ((0, 1), (1, top - 1)))), True)
        wrong = ((1, 0), (0, top + 1)), ((0, 1), (1, top))
        self.assertIs(is_counts(wrong), False)
        self.assertIs(type(error_of(counts_fault, wrong)), InvalidCounts)
        self.assertIs(is_counts(counts_of(Scheme.by_ring(20))), True)
        twelve = ((((1,) * 12,) * 12,) * 12)
        self.assertIs(type(error_of(counts_fault, twelve)), InvalidCounts)
        self.assertEqual(counts_fault((((1,) * 11,) * 11,) * 11), ("zero", 0, 1))


def drawn_symmetric(draw):
    """A table of four kinds that keeps all rules but perhaps the last one, all valencies being v but the first.

    Then the numbers of three kinds from 1 on do not change as the kinds change places, and their sums tell most of them.
    """
    while True:
        v, mixed = draw.randint(2, 9), draw.randint(0, 4)
        low = {(1, 2): draw.randint(0, v), (1, 3): draw.randint(0, v), (2, 3): draw.randint(0, v)}
        numbers = {(1, 2, 3): mixed}
        for (i, j), entry in low.items():
            numbers[i, i, j] = entry
            numbers[i, j, j] = v - mixed - entry
        for i in (1, 2, 3):
            numbers[i, i, i] = v - 1 - sum(entry for places, entry in numbers.items() if places.count(i) == 2)
        if min(numbers.values()) >= 0:
            break
    table = [[[0] * 4 for _ in range(4)] for _ in range(4)]
    for i in range(4):
        table[i][0][i] = table[i][i][0] = 1
        table[0][i][i] = v if i else 1
    for places, entry in numbers.items():
        for i, j, k in permutations(places):
            table[k][i][j] = entry
    return tuple([tuple([tuple(row) for row in square]) for square in table])


class Counts(unittest.TestCase):

    def test_of_schemes(self):
        for scheme in schemes():
            counts, kinds = counts_of(scheme), range(scheme.most + 1)
            self.assertEqual(counts, tuple([tuple([tuple([scheme.number(i, j, k) for j in kinds]) for i in kinds]) for k in kinds]))
            self.assertEqual(valencies_of(counts), scheme.valencies)
            self.assertEqual(points_of(counts), scheme.size)

    def test_all_counts(self):
        for counts in plain_counts():
            v, kinds = valencies_of(counts), range(len(counts))
            self.assertEqual(points_of(counts), sum(v))
            for i, j in product(kinds, repeat=2):
                self.assertEqual(sum(counts[k][i][j] * v[k] for k in kinds), v[i] * v[j])

    def test_lone_counts(self):
        for size in [2, 3, 17, 32]:
            self.assertEqual(lone_counts(size), counts_of(Scheme.lone(size)))
        for size in [2, 10 ** 9]:
            self.assertIs(is_counts(lone_counts(size)), True)
            self.assertEqual(points_of(lone_counts(size)), size)
        for size in [1, 10 ** 9 + 1]:
            self.assertEqual((type(error_of(lone_counts, size)), error_of(lone_counts, size).given), (InvalidNumber, size))


class Sums(unittest.TestCase):

    def each(self, many, seed):
        draw = random.Random(seed)
        for _ in range(many):
            yield draw, draw.choice(plain_counts())

    def test_products(self):
        for draw, counts in self.each(150, 55):
            one, other, third = [drawn_sum(draw, counts) for _ in range(3)]
            found = kinds_product(counts, one, other)
            self.assertEqual(found, product_by_hand(counts, one, other))
            self.assertEqual(found, kinds_product(counts, other, one))
            self.assertEqual(kinds_product(counts, found, third), kinds_product(counts, one, kinds_product(counts, other, third)))
            self.assertEqual(kinds_product(counts, one, kind_zero(counts)), with_pairs(one))
            self.assertEqual(kinds_product(counts, with_pairs(one), with_pairs(other)), found)

    def test_pairings(self):
        for draw, counts in self.each(100, 56):
            one, other, third = [drawn_sum(draw, counts) for _ in range(3)]
            v = valencies_of(counts)
            wanted = sum(as_python(a) * as_python(b) * weight for a, b, weight in zip(one, other, v))
            self.assertEqual(kinds_pairing(counts, one, other), as_own(Fraction(wanted)))
            self.assertEqual(
                kinds_pairing(counts, kinds_product(counts, one, other), third), kinds_pairing(counts, one, kinds_product(counts, other, third))
            )

    def test_powers(self):
        for draw, counts in self.each(40, 57):
            one = drawn_sum(draw, counts)
            power = kind_zero(counts)
            for many in range(6):
                self.assertEqual(kinds_power(counts, one, many), power)
                power = product_by_hand(counts, power, one)
        self.assertEqual(kinds_power(TEN, (0, 0, 0), 0), ((1, 1), (0, 1), (0, 1)))
        self.assertEqual(kinds_power(lone_counts(2), (0, (1, 2)), 60), ((1, 2 ** 60), (0, 1)))
        self.assertEqual(kinds_power(TEN, (2, 0, 0), 60)[0], (2 ** 60, 1))

    def test_walks(self):
        for scheme in [PAIRS, CUBE, Scheme.by_ring(7), Scheme.lone(1), Scheme.lone(4)]:
            counts = counts_of(scheme)
            for kind in range(scheme.most + 1):
                ends = [int(point == 0) for point in range(scheme.size)]
                for many in range(7):
                    told = walks_by_kinds(counts, kind, many)
                    self.assertEqual([told[scheme.kind_of(0, point)] for point in range(scheme.size)], ends)
                    ends = [sum(ends[other] for other in scheme.around(point, kind)) for point in range(scheme.size)]
        far = walks_by_kinds(TEN, 1, 200)
        self.assertEqual(sum(number * valency for number, valency in zip(far, (1, 3, 6))), 3 ** 200)
        self.assertTrue(all(isinstance(entry, int) for entry in far))
        self.assertEqual(walks_by_kinds(TEN, 2, 60), tuple([top for top, _ in kinds_power(TEN, (0, 0, 1), 60)]))

    def test_values(self):
        for draw, counts in self.each(60, 58):
            one = drawn_sum(draw, counts)
            poly = tuple([drawn_number(draw, 5) for _ in range(draw.randint(0, 4))] + [1])
            total = [Fraction(0)] * len(counts)
            for exponent, entry in enumerate(poly):
                power = kinds_power(counts, one, exponent)
                total = [a + as_python(entry) * as_python(b) for a, b in zip(total, power)]
            self.assertEqual(kinds_value(counts, poly, one), tuple([as_own(entry) for entry in total]))
        self.assertEqual(kinds_value(TEN, (), (1, 2, 3)), ((0, 1),) * 3)
        self.assertEqual(kinds_value(TEN, (7,), (1, 2, 3)), ((7, 1), (0, 1), (0, 1)))
        self.assertEqual(kinds_value(TEN, (0,) * 40 + (1,), (0, 1, 0)), kinds_power(TEN, (0, 1, 0), 40))

    def test_least_polynomials(self):
        for draw, counts in self.each(120, 59):
            one = drawn_sum(draw, counts)
            least = least_poly(counts, one)
            degree = len(least) - 1
            self.assertEqual(least[-1], (1, 1))
            self.assertTrue(1 <= degree <= len(counts))
            self.assertEqual(kinds_value(counts, least, one), ((0, 1),) * len(counts))
            # No lesser degree does it: the powers below are of full rank.
            rows = [[as_python(entry) for entry in kinds_power(counts, one, many)] for many in range(degree)]
            self.assertEqual(rank(rows), degree)
            derived = tuple([as_own(as_python(entry) * at) for at, entry in enumerate(least)][1:])
            self.assertEqual(len(share(least, derived)), 1)
            self.assertEqual(least_poly(counts, with_pairs(one)), least)
        self.assertEqual(least_poly(TEN, (0, 0, 0)), ((0, 1), (1, 1)))
        self.assertEqual(least_poly(TEN, ((1, 2), 0, 0)), ((-1, 2), (1, 1)))
        self.assertEqual(least_poly((((1,),),), (SIXTY,)), ((-SIXTY, 1), (1, 1)))
        far = (0, (1, LONG), (LONG, 7))
        self.assertEqual(kinds_value(TEN, least_poly(TEN, far), far), ((0, 1),) * 3)

    def test_undone(self):
        found = 0
        for draw, counts in self.each(150, 60):
            one = drawn_sum(draw, counts)
            undone = kinds_undone(counts, one)
            self.assertEqual(undone is None, least_poly(counts, one)[0] == (0, 1))
            if undone is not None:
                found += 1
                self.assertEqual(kinds_product(counts, one, undone), kind_zero(counts))
                self.assertEqual(kinds_undone(counts, undone), with_pairs(one))
        self.assertGreater(found, 60)
        self.assertIsNone(kinds_undone(TEN, (1, 1, 1)))
        self.assertEqual(kinds_undone((((1,),),), (2,)), ((1, 2),))


def rank(rows):
    left, found = [list(row) for row in rows], 0
    for column in range(len(rows[0])):
        leads = [row for row in left if row[column]]
        if leads:
            found += 1
            lead = leads[0]
            left = [[a - row[column] / lead[column] * b for a, b in zip(row, lead)] for row in left if row is not lead]
    return found


def share(one, other):
    while other:
        one, other = other, poly_rest(one, other)[1]
    return one


class Orders(unittest.TestCase):

    def test_renumbered(self):
        draw = random.Random(61)
        for scheme in schemes():
            names = list(range(1, scheme.most + 1))
            draw.shuffle(names)
            order = (0, *names)
            counts = counts_renumbered(counts_of(scheme), order)
            self.assertEqual(counts, counts_of(scheme.renumbered(order)))
            old = counts_of(scheme)
            for i, j, k in product(range(len(order)), repeat=3):
                self.assertEqual(counts[order[k]][order[i]][order[j]], old[k][i][j])
            self.assertIs(is_counts_order(old, counts, order), True)
            if scheme.most <= 7:
                found = counts_order(old, counts)
                self.assertEqual(counts_renumbered(old, found), counts)
                self.assertIs(is_counts_order(old, counts, found), True)

    def test_all_orders(self):
        some = [counts for counts in plain_counts() if len(counts) <= 5]
        for one in some:
            for other in some[::7] + [one]:
                if len(one) == len(other):
                    right = [order for order in permutations(range(len(one))) if order[0] == 0 and counts_renumbered(one, order) == other]
                    for order in permutations(range(len(one))):
                        self.assertIs(is_counts_order(one, other, order), order in right)
                    self.assertIn(counts_order(one, other), right or [None])
                else:
                    self.assertIsNone(counts_order(one, other))
                    self.assertIs(is_counts_order(one, other, tuple(range(len(one)))), False)
                    self.assertIs(is_counts_order(one, other, tuple(range(len(other)))), False)

    def test_too_many_kinds(self):
        eight, nine = counts_of(Scheme.by_ring(15)), counts_of(Scheme.by_ring(16))
        self.assertEqual((len(eight), len(nine)), (8, 9))
        self.assertEqual(counts_order(eight, eight)[0], 0)
        for pair in [(nine, nine), (nine, eight), (eight, nine), (TEN, nine), (nine, TEN)]:
            error = error_of(counts_order, *pair)
            self.assertEqual((type(error), error.limit), (TooMany, 7))
        for pair in [(nine, None), (None, nine), (nine, (((0,),),))]:
            self.assertIs(type(error_of(counts_order, *pair)), InvalidCounts)
        self.assertIs(is_counts_order(nine, nine, tuple(range(9))), True)
        self.assertIs(is_counts_order(nine, nine, (0, 2, 1, 3, 4, 5, 6, 7, 8)), False)
        self.assertIs(is_counts_order(nine, nine, (0, 3, 6, 7, 4, 1, 2, 5, 8)), True)

    def test_not_true(self):
        # The kind 2 of SEVEN would part seven points into threes; and no other rule tells the sums.
        self.assertEqual(SEVEN[2][2][2] + 1, valencies_of(SEVEN)[2])
        self.assertNotEqual(points_of(SEVEN) % 3, 0)
        self.assertEqual([fault[0] for fault in broken((((1, 0), (0, 3)), ((0, 1), (1, 1))))], ["sums"])


if __name__ == "__main__":
    unittest.main()
