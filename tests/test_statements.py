"""Points 0.15 to 0.21, each with the functions of all parts of which it speaks."""

import random
import unittest
from collections import Counter
from fractions import Fraction
from functools import cache

from tests.samples import CUBE, PAIRS, STAR, drawn_web, schemes, turned_web, web_of
from tests.support import as_own, as_python
from tests.test_bounds import kinds_sets, rest_of
from tests.test_fusions import drawn_parting
from tests.test_groups import drawn_turning
from thirdcounts.eigen.krein import krein_fault, krein_number
from thirdcounts.eigen.spaces import first_table, has_integer_values, multiplicities
from thirdcounts.errors import Refused, TooMany
from thirdcounts.kin.families import Family
from thirdcounts.ladder.ladders import kind_ladders, space_ladders
from thirdcounts.lots.bounds import (
    bound, bound_paper, bound_row, is_bound_paper, is_passing, lots_bound, loose_bound, paper_of_row, paper_worth, partner, partner_row, row_of_paper
)
from thirdcounts.lots.counting import dual_counts, farthest, inner_counts, is_perfect, lot_scheme, strength
from thirdcounts.lots.meeting import (
    are_across, common_number, does_keep, each_greatest, greatest_lot, greatest_size, is_even_lot, pair_sum, rings_of, tight_lots
)
from thirdcounts.made.fusions import fused, fused_counts, is_fusion, spaces_parting
from thirdcounts.made.products import beside, inside, power
from thirdcounts.moving.groups import group_scheme, moves_paper
from thirdcounts.pairs.counts import counts_of, counts_order, is_counts, points_of
from thirdcounts.pairs.schemes import Scheme, is_scheme_table
from thirdcounts.parts.closed import classes_of, closed_sets, piece, quotient
from thirdcounts.use.desk import Desk
from thirdcounts.webs.walks import excess, is_distance_scheme, least_poly_of_web, mean_far, web_of_kinds


@cache
def made_schemes():
    """Schemes made by all parts of the program that make some, with integers as eigenvalues, and lots of them."""
    draw = random.Random(150)
    found = [scheme for scheme in schemes() if scheme.size <= 20]
    small = [scheme for scheme in found if 1 < scheme.size <= 10]
    for _ in range(40):
        for call in [beside, inside]:
            found += made(call, draw.choice(small), draw.choice(small))
        found += made(power, draw.choice(small), draw.randint(1, 3))
        moduli = draw.choice([(2, 2, 2), (4, 4), (3, 3), (2, 6), (2, 4), (6,)])
        found += made(group_scheme, moduli, drawn_turning(draw, moduli, 3))
        scheme = draw.choice(found)
        parting = drawn_parting(draw, scheme.most)
        if is_fusion(counts_of(scheme), parting):
            found.append(fused(scheme, parting))
        closed = draw.choice(closed_sets(counts_of(scheme)))
        found += [quotient(scheme, closed), piece(scheme, closed, draw.randrange(scheme.size))]
        lot = tuple(sorted(draw.sample(range(scheme.size), min(scheme.size, 3))))
        found += [lot_scheme(scheme, lot)] if lot_scheme(scheme, lot) else []
    told = {scheme.table: scheme for scheme in found if has_integer_values(counts_of(scheme))}
    return tuple([told[table] for table in sorted(told)])


def made(call, *arguments):
    """What a call makes, in a list, empty if there are too many points or kinds, or no scheme."""
    try:
        return [call(*arguments)]
    except (TooMany, Refused):
        return []


def drawn_lot(draw, scheme):
    if draw.random() < 0.4:
        desk = Desk(scheme)
        desk.put("lot", (draw.randrange(scheme.size),))
        for kind in range(draw.randint(0, scheme.most)):
            for point in scheme.around(desk.lot_named("lot")[0], kind + 1):
                desk.toggle("lot", point)
        return desk.lot_named("lot")
    return tuple(sorted(draw.sample(range(scheme.size), draw.randint(1, scheme.size))))


class Statements(unittest.TestCase):

    def test_there_are_many(self):
        self.assertGreater(len(made_schemes()), 90)
        self.assertGreater(len({scheme.most for scheme in made_schemes()}), 6)

    def test_nothing_below_0(self):
        """0.15"""
        draw = random.Random(15)
        for scheme in made_schemes():
            self.assertIs(krein_fault(counts_of(scheme)), None)
            for _ in range(3):
                duals = dual_counts(scheme, drawn_lot(draw, scheme))
                self.assertTrue(all(top >= 0 for top, _ in duals))
                self.assertEqual(sum(map(as_python, duals)), scheme.size)

    def test_bounds_with_papers(self):
        """0.16"""
        draw, tight = random.Random(16), Counter()
        for scheme in made_schemes():
            counts = counts_of(scheme)
            told = kinds_sets(counts)
            for kinds in draw.sample(told, min(2, len(told))):
                most, paper = greatest_size(scheme, kinds), bound_paper(counts, kinds)
                self.assertLessEqual(most, lots_bound(counts, kinds))
                self.assertLessEqual(lots_bound(counts, kinds), as_python(bound(counts, kinds)))
                self.assertEqual((len(paper), paper_worth(counts, paper)), (len(counts), bound(counts, kinds)))
                self.assertEqual(sum(map(as_python, bound_row(counts, kinds))), as_python(bound(counts, kinds)))
                lot = greatest_lot(scheme, kinds)
                self.assertIs(is_passing(counts, kinds, inner_counts(scheme, lot)), True)
                self.assertIs(is_bound_paper(counts, kinds, paper), True)
                tight[most == as_python(bound(counts, kinds))] += 1
                for other in [drawn_lot(draw, scheme) for _ in range(3)]:
                    if does_keep(scheme, kinds, other):
                        self.assertLessEqual(len(other), lots_bound(counts, kinds))
                        self.assertIs(is_passing(counts, kinds, inner_counts(scheme, other)), True)
        self.assertGreater(min(tight.values()), 4)

    def test_partners(self):
        """0.17"""
        draw = random.Random(17)
        more = [Family.words(8, 2), Family.subsets(12, 5), Family.subspaces(6, 3, 2), Family.forms(3, 3, 2), Family.words(5, 4)]
        for counts in [counts_of(scheme) for scheme in made_schemes()] + [family.counts() for family in more]:
            told, n = kinds_sets(counts), points_of(counts)
            for kinds in draw.sample(told, min(2, len(told))):
                self.assertEqual(as_python(bound(counts, kinds)) * as_python(partner(counts, kinds)), n)
                self.assertEqual(as_python(loose_bound(counts, kinds)) * as_python(loose_bound(counts, rest_of(counts, kinds))), n)
                row = partner_row(counts, kinds)
                self.assertEqual(as_own(sum(map(as_python, row))), partner(counts, kinds))
                self.assertEqual(row_of_paper(counts, paper_of_row(counts, row)), row)
                self.assertEqual(paper_worth(counts, paper_of_row(counts, row)), bound(counts, kinds))

    def test_meeting(self):
        """0.18"""
        draw, found = random.Random(18), Counter()
        for scheme in made_schemes():
            lots = [drawn_lot(draw, scheme) for _ in range(5)]
            for closed in closed_sets(counts_of(scheme))[:3]:
                lots += classes_of(scheme, closed)[:2]
            duals = {lot: dual_counts(scheme, lot) for lot in lots}
            for one, b in duals.items():
                for other, e in duals.items():
                    across = all(x == (0, 1) or y == (0, 1) for x, y in list(zip(b, e))[1:])
                    found[across] += 1
                    self.assertIs(are_across(scheme, one, other), across)
                    if across:
                        self.assertEqual(common_number(one, other), Fraction(len(one) * len(other), scheme.size))
        self.assertGreater(min(found.values()), 200)

    def test_tight_pairs(self):
        draw, found = random.Random(181), 0
        for scheme in made_schemes():
            told = kinds_sets(counts_of(scheme))
            for kinds in draw.sample(told, min(4, len(told))):
                pair, rest = tight_lots(scheme, kinds), rest_of(counts_of(scheme), kinds)
                if pair:
                    found += 1
                    one, other = pair
                    self.assertEqual((pair_sum(scheme, one, other), common_number(one, other)), ((1, 1), 1))
                    self.assertEqual(bound(counts_of(scheme), kinds), (len(one), 1))
                    self.assertEqual(partner(counts_of(scheme), kinds), (len(other), 1))
                    try:
                        further = list(each_greatest(scheme, rest))
                    except TooMany:
                        continue
                    self.assertTrue(all(common_number(one, lot) == 1 for lot in further))
        self.assertGreater(found, 60)

    def test_webs(self):
        """0.19"""
        draw, found = random.Random(190), Counter()
        webs = [web_of_kinds(scheme, (kind,)) for scheme in made_schemes() if scheme.size <= 16 for kind in range(1, scheme.most + 1)]
        webs += [turned_web(size, steps) for size in range(4, 14) for steps in [(1,), (1, 2), (2, 3), (1, 4), (1, 2, 4)]]
        webs += [drawn_web(draw, draw.randint(3, 6), 0.6) for _ in range(60)]
        for web in webs:
            if web.is_joined and web.is_regular:
                d, most = excess(web)
                self.assertEqual(len(least_poly_of_web(web)) - 2, d)
                self.assertLessEqual(as_python(mean_far(web)), as_python(most))
                wanted = mean_far(web) == most
                self.assertIs(is_distance_scheme(web), wanted)
                found[wanted] += 1
        self.assertGreater(min(found.values()), 20)

    def test_kinds_put_together(self):
        """0.20"""
        draw, found = random.Random(20), Counter()
        for scheme in made_schemes():
            counts, first = counts_of(scheme), first_table(counts_of(scheme))
            for parting in [drawn_parting(draw, scheme.most) for _ in range(4)]:
                rows = {(1,) + tuple([sum(row[kind] for kind in lot) for lot in parting]) for row in first}
                wanted = len(rows) == len(parting) + 1
                self.assertIs(is_fusion(counts, parting), wanted)
                self.assertEqual(len(spaces_parting(counts, parting)), len(rows))
                names = {0: 0, **{kind: at + 1 for at, lot in enumerate(parting) for kind in lot}}
                table = tuple([tuple([names[kind] for kind in row]) for row in scheme.table])
                self.assertIs(is_scheme_table(table), wanted)
                found[wanted] += 1
                if wanted:
                    self.assertEqual(first_table(fused_counts(counts, parting)), tuple(sorted(rows, reverse=True)))
                    self.assertEqual(counts_of(fused(scheme, parting)), fused_counts(counts, parting))
        self.assertGreater(min(found.values()), 40)

    def test_made_schemes_have_all_parts(self):
        """Multiplicities are integers, ladders of both sorts tell lots and distances."""
        draw = random.Random(200)
        for scheme in made_schemes():
            counts = counts_of(scheme)
            self.assertTrue(all(bottom == 1 for _, bottom in multiplicities(counts)))
            self.assertIs(is_counts(counts), True)
            lot = drawn_lot(draw, scheme)
            for order in kind_ladders(counts):
                if is_perfect(scheme, order, lot):
                    self.assertLessEqual(farthest(scheme, order, lot), scheme.most)
            for order in space_ladders(counts):
                self.assertLessEqual(strength(scheme, order, lot), scheme.most)
            self.assertEqual(sorted([point for ring in rings_of(scheme, lot) for point in ring]), list(range(scheme.size)))


class NotTrue(unittest.TestCase):
    """0.21"""

    def test_equal_counts(self):
        twisted = group_scheme((4, 4), ((1, 3, 4, 5, 12, 15), (2, 6, 7, 8, 9, 10, 11, 13, 14)))
        squares = power(Scheme.lone(4), 2)
        self.assertIsNot(counts_order(counts_of(twisted), counts_of(squares)), None)
        # Only one of them comes of moves, so no names of the points make them the same.
        self.assertEqual((moves_paper(twisted)[0], moves_paper(squares)[0]), ("pairs", "moves"))

    def test_others(self):
        self.assertEqual(krein_number(counts_of(PAIRS), 1, 1, 1), (2, 9))
        words = Scheme.by_places(4, 2)
        row = bound_row(counts_of(words), (1, 2))
        self.assertEqual((sum(map(as_python, row)), greatest_size(words, (1, 2))), (6, 5))
        self.assertEqual((len(least_poly_of_web(STAR)) - 1, is_distance_scheme(STAR)), (3, False))
        self.assertIs(is_distance_scheme(web_of(4, ((0, 1), (0, 3), (1, 2), (2, 3)))), True)
        self.assertEqual((is_even_lot(CUBE, (0, 1)), is_even_lot(PAIRS, (0, 1))), (True, False))


if __name__ == "__main__":
    unittest.main()
