"""Points 13.1 to 13.5, and 0.20."""

import inspect
import random
import unittest
from collections import Counter
from itertools import product

from tests.samples import CUBE, PRISM_TABLE, TEN, integer_counts, plain_counts, schemes
from tests.support import as_python, error_of, run_examples
from thirdcounts.eigen.spaces import first_table, multiplicities
from thirdcounts.errors import InvalidCounts, InvalidOperation, InvalidParting, InvalidScheme, Refused, TooMany
from thirdcounts.made.fusions import (
    MAX_FUSED, all_fusions, all_partings, common_parting, fused, fused_counts, fused_twice, fusion_fault, is_fusion, is_fusion_fault, is_parting,
    met_parting, spaces_parting
)
from thirdcounts.pairs.counts import counts_of, is_counts, lone_counts
from thirdcounts.pairs.schemes import Scheme, is_scheme_table

EXAMPLES = """
>>> from thirdcounts.pairs.counts import counts_of
>>> EIGHT = counts_of(CUBE)
>>> [is_fusion(EIGHT, ((1, 2), (3,))), is_fusion(EIGHT, ((1,), (2, 3))), is_parting(EIGHT, ((2,), (1, 3))), is_parting(EIGHT, ((1, 3), (2,)))]
[True, False, False, True]
>>> [all_fusions(EIGHT), len(list(all_partings(EIGHT))), spaces_parting(EIGHT, ((1, 2), (3,))), spaces_parting(EIGHT, ((1,), (2, 3)))]
[(((1,), (2,), (3,)), ((1, 2), (3,)), ((1, 2, 3),), ((1, 3), (2,))), 5, ((0,), (1, 3), (2,)), ((0,), (1,), (2,), (3,))]
>>> [fused_counts(EIGHT, ((1, 2, 3),)), common_parting(EIGHT, ((1, 2), (3,)), ((1, 3), (2,))), met_parting(EIGHT, ((1, 2), (3,)), ((1, 3), (2,)))]
[(((1, 0), (0, 7)), ((0, 1), (1, 6))), ((1, 2, 3),), ((1,), (2,), (3,))]
>>> [is_fusion_fault(EIGHT, ((1,), (2, 3)), (1, 1, 2, 3)), fused_twice(EIGHT, ((1, 3), (2,)), ((1, 2),))]
[True, ((1, 2, 3),)]
>>> fused_counts(EIGHT, ((1,), (2, 3)))
raises InvalidOperation
"""

BELL = [1, 1, 2, 5, 15, 52, 203, 877]
ONLY = (((1,),),)


def partings_of(things):
    """All partings of a list, in no sequence."""
    if not things:
        return [[]]
    found = []
    for rest in partings_of(things[1:]):
        found.append([[things[0]]] + rest)
        found += [rest[:at] + [[things[0]] + lot] + rest[at + 1:] for at, lot in enumerate(rest)]
    return found


def as_parting(lots):
    return tuple(sorted([tuple(sorted(lot)) for lot in lots]))


def all_by_hand(counts):
    return sorted([as_parting(lots) for lots in partings_of(list(range(1, len(counts))))])


def drawn_parting(draw, most):
    lots = {}
    for kind in range(1, most + 1):
        lots.setdefault(draw.randint(1, draw.randint(1, max(1, most))), []).append(kind)
    return as_parting(lots.values())


def sum_at(counts, lots, one, other, kind):
    return sum(counts[kind][i][j] for i in lots[one] for j in lots[other])


def is_fusion_by_hand(counts, parting):
    lots = ((0,),) + parting
    at = range(len(lots))
    return all(len({sum_at(counts, lots, one, other, kind) for kind in lot}) == 1 for lot in lots for one in at for other in at)


def fused_table(scheme, parting):
    return tuple([tuple([next((at + 1 for at, lot in enumerate(parting) if kind in lot), 0) for kind in row]) for row in scheme.table])


class Examples(unittest.TestCase):

    def test_examples(self):
        self.assertEqual(run_examples(self, EXAMPLES, dict(globals())), 5)
        self.assertEqual(MAX_FUSED, 7)


class Partings(unittest.TestCase):

    def test_all_partings(self):
        for counts in plain_counts():
            if len(counts) == 8 and counts[0][1][1] > 2:
                continue
            if len(counts) <= 8:
                wanted = all_by_hand(counts)
                self.assertEqual(list(all_partings(counts)), wanted)
                self.assertEqual(len(wanted), BELL[len(counts) - 1])
                self.assertTrue(all(is_parting(counts, parting) for parting in wanted[:40]))
            else:
                self.assertEqual(error_of(next, all_partings(counts)).limit, 7)
                self.assertEqual(error_of(all_fusions, counts).limit, 7)
        self.assertEqual(list(all_partings(ONLY)), [()])

    def test_generator(self):
        told = all_partings(counts_of(CUBE))
        self.assertTrue(inspect.isgenerator(told))
        self.assertEqual([next(told), next(told)], [((1,), (2,), (3,)), ((1,), (2, 3))])
        self.assertEqual(len(list(told)), 3)
        wrong = all_partings(CUBE)
        self.assertIs(type(error_of(next, wrong)), InvalidCounts)
        self.assertIs(type(error_of(next, all_partings(counts_of(Scheme.by_ring(16))))), TooMany)
        self.assertEqual(len(next(all_partings(counts_of(Scheme.by_ring(15))))), 7)

    def test_is_parting(self):
        for counts in [ONLY, lone_counts(4), TEN, counts_of(CUBE)]:
            wanted = all_by_hand(counts)
            for many in range(0, 4):
                for lots in product([(), (0,), (1,), (2,), (3,), (4,), (1, 2), (2, 1), (1, 3), (2, 3), (1, 2, 3), (1, 2, 3, 4), (0, 1), (1, 4), (3, 4), (2, 4)], repeat=many):
                    self.assertIs(is_parting(counts, lots), lots in wanted)
        self.assertIs(is_parting(ONLY, ()), True)
        self.assertIs(is_parting(ONLY, ((),)), False)


class Fusions(unittest.TestCase):

    def each(self, many):
        draw = random.Random(13)
        for counts in plain_counts():
            told = all_by_hand(counts) if len(counts) <= 8 else [drawn_parting(draw, len(counts) - 1) for _ in range(many)]
            for parting in told if len(told) <= many else draw.sample(told, many):
                yield counts, parting

    def test_fusions_and_faults(self):
        found = Counter()
        for counts, parting in self.each(30):
            wanted = is_fusion_by_hand(counts, parting)
            found[wanted] += 1
            self.assertIs(is_fusion(counts, parting), wanted)
            fault = fusion_fault(counts, parting)
            if wanted:
                self.assertIs(fault, None)
            else:
                self.assertIs(is_fusion_fault(counts, parting, fault), True)
        self.assertGreater(min(found.values()), 100)

    def test_each_fault(self):
        for counts in [counts_of(CUBE), TEN, counts_of(Scheme(PRISM_TABLE))]:
            for parting in all_by_hand(counts)[:4]:
                lots = ((0,),) + parting
                at, kinds = range(-1, len(lots) + 1), range(-1, len(counts) + 1)
                for one, other, first, second in product(at, at, kinds, kinds):
                    right = 0 <= one < len(lots) and 0 <= other < len(lots) and any(first in lot and second in lot for lot in lots)
                    wanted = right and sum_at(counts, lots, one, other, first) != sum_at(counts, lots, one, other, second)
                    self.assertIs(is_fusion_fault(counts, parting, (one, other, first, second)), wanted)

    def test_true_is_not_1(self):
        counts, parting = counts_of(Scheme.by_ring(9)), ((1, 2), (3, 4))
        faults = [
            fault for fault in product(range(3), range(3), range(5), range(5)) if is_fusion_fault(counts, parting, fault) and 1 in fault
        ]
        self.assertTrue(faults)
        for fault in faults:
            for at in [at for at in range(4) if fault[at] == 1]:
                self.assertIs(is_fusion_fault(counts, parting, fault[:at] + (True,) + fault[at + 1:]), False)

    def test_all_fusions(self):
        for counts in plain_counts():
            if len(counts) <= 8:
                wanted = [parting for parting in all_by_hand(counts) if is_fusion_by_hand(counts, parting)]
                self.assertEqual(all_fusions(counts), tuple(wanted))
                single = tuple([(kind,) for kind in range(1, len(counts))])
                self.assertTrue(single in wanted and (len(counts) == 1 or (tuple(range(1, len(counts))),) in wanted))
        self.assertEqual(all_fusions(ONLY), ((),))

    def test_fused_counts(self):
        for counts, parting in self.each(20):
            if is_fusion_by_hand(counts, parting):
                told = fused_counts(counts, parting)
                lots = ((0,),) + parting
                self.assertIs(is_counts(told), True)
                for k, j, i in product(range(len(lots)), repeat=3):
                    self.assertEqual(told[k][i][j], sum_at(counts, lots, i, j, lots[k][-1]))
            else:
                self.assertIs(type(error_of(fused_counts, counts, parting)), InvalidOperation)

    def test_fused_schemes(self):
        draw = random.Random(3)
        found = Counter()
        for scheme in schemes():
            for parting in [drawn_parting(draw, scheme.most) for _ in range(8)] + [((tuple(range(1, scheme.most + 1))),)] * (scheme.most > 0):
                table = fused_table(scheme, parting)
                wanted = is_scheme_table(table)
                found[wanted] += 1
                self.assertIs(is_fusion(counts_of(scheme), parting), wanted)
                if wanted:
                    self.assertEqual(fused(scheme, parting), Scheme(table))
                    self.assertEqual(counts_of(fused(scheme, parting)), fused_counts(counts_of(scheme), parting))
                else:
                    self.assertIs(type(error_of(fused, scheme, parting)), InvalidOperation)
        self.assertGreater(min(found.values()), 50)
        self.assertEqual(fused(Scheme.lone(1), ()), Scheme.lone(1))
        self.assertEqual(fused_counts(ONLY, ()), ONLY)

    def test_rows_of_first_tables(self):
        found = Counter()
        for counts, parting in self.each(10):
            if counts not in integer_counts():
                error = error_of(spaces_parting, counts, parting)
                self.assertEqual((type(error), error.reason), (Refused, ("eigenvalues",)))
                continue
            first, many = first_table(counts), multiplicities(counts)
            sums = [(1,) + tuple([sum(row[kind] for kind in lot) for lot in parting]) for row in first]
            wanted = sorted([tuple([r for r, row in enumerate(sums) if row == told]) for told in set(sums)])
            told = spaces_parting(counts, parting)
            self.assertEqual(told, tuple(wanted))
            self.assertGreaterEqual(len(told), len(parting) + 1)
            self.assertIs(is_fusion(counts, parting), len(told) == len(parting) + 1)
            found[len(told) == len(parting) + 1] += 1
            if is_fusion(counts, parting):
                made = fused_counts(counts, parting)
                rows = tuple(sorted(set(sums), reverse=True))
                self.assertEqual(first_table(made), rows)
                for row, (top, bottom) in zip(rows, multiplicities(made)):
                    self.assertEqual(sum(as_python(many[r]) for r in range(len(sums)) if sums[r] == row), as_python((top, bottom)))
        self.assertGreater(min(found.values()), 30)


class TwoPartings(unittest.TestCase):

    def test_common_and_met(self):
        draw = random.Random(8)
        for counts in plain_counts():
            most = len(counts) - 1
            for _ in range(12):
                one, other = drawn_parting(draw, most), drawn_parting(draw, most)
                together = {(a, b) for lot in one + other for a in lot for b in lot}
                while True:
                    further = {(a, d) for a, b in together for c, d in together if b == c} - together
                    if not further:
                        break
                    together |= further
                lots = {tuple([b for b in range(1, most + 1) if (a, b) in together]) for a in range(1, most + 1)}
                self.assertEqual(common_parting(counts, one, other), tuple(sorted(lots)))
                both = [(lot, further) for lot in one for further in other]
                lots = [tuple(sorted(set(lot) & set(further))) for lot, further in both]
                self.assertEqual(met_parting(counts, one, other), tuple(sorted([lot for lot in lots if lot])))

    def test_common_fusions(self):
        for counts in plain_counts():
            if len(counts) <= 7:
                told = all_fusions(counts)
                for one, other in product(told[:12], repeat=2):
                    self.assertIn(common_parting(counts, one, other), told)

    def test_fused_twice(self):
        draw = random.Random(21)
        for counts in plain_counts():
            for _ in range(6):
                parting = drawn_parting(draw, len(counts) - 1)
                further = drawn_parting(draw, len(parting))
                wanted = as_parting([[kind for index in lot for kind in parting[index - 1]] for lot in further])
                self.assertEqual(fused_twice(counts, parting, further), wanted)
            if len(counts) <= 6:
                for parting in all_fusions(counts)[:6]:
                    made = fused_counts(counts, parting)
                    for further in all_fusions(made)[:6]:
                        both = fused_twice(counts, parting, further)
                        self.assertIs(is_fusion(counts, both), True)
                        self.assertEqual(fused_counts(counts, both), fused_counts(made, further))


class Errors(unittest.TestCase):

    def test_errors(self):
        eight, split = counts_of(CUBE), ((1, 2), (3,))
        self.assertIs(type(error_of(fused, eight, split)), InvalidScheme)
        self.assertIs(type(error_of(fused, CUBE, ((1,), (2,)))), InvalidParting)
        self.assertIs(type(error_of(fused, CUBE, ((1,), (2, 3)))), InvalidOperation)
        self.assertIs(type(error_of(fused_counts, CUBE, split)), InvalidCounts)
        for further in [split, ((1,), (2,), (3,)), ((2,), (1,)), (), ((1,),), ((True, 2),), None, [(1, 2)]]:
            self.assertIs(type(error_of(fused_twice, eight, split, further)), InvalidParting)
        self.assertIs(type(error_of(fused_twice, eight, ((1,), (2,)), None)), InvalidParting)
        self.assertEqual(fused_twice(eight, ((1,), (2, 3)), ((1, 2),)), ((1, 2, 3),))
        self.assertEqual(fused_twice(ONLY, (), ()), ())
        ring = counts_of(Scheme.by_ring(5))
        self.assertEqual(error_of(spaces_parting, ring, ((1, 2),)).reason, ("eigenvalues",))
        self.assertIs(type(error_of(spaces_parting, ring, ((1,),))), InvalidParting)
        self.assertIs(is_fusion(ring, ((1, 2),)), True)

    def test_not_true(self):
        words = counts_of(Scheme.by_places(4, 2))
        told = all_fusions(words)
        self.assertTrue(any(met_parting(words, one, other) not in told for one in told for other in told))
        # The kind 1 has equally many points round each point, and yet not all others together.
        ring = counts_of(Scheme.by_ring(6))
        self.assertIs(is_fusion(ring, ((1,), (2, 3))), False)


if __name__ == "__main__":
    unittest.main()
