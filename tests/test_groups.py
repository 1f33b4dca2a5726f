"""Points 14.1 to 14.6."""

import math
import random
import unittest
from collections import Counter
from itertools import permutations, product

from tests import samples
from tests.samples import CUBE, PAIRS, PRISM_TABLE, schemes
from tests.support import error_of, run_examples
from thirdcounts.eigen.spaces import first_table, second_table
from thirdcounts.errors import InvalidLot, InvalidMoves, InvalidNumber, InvalidOperation, InvalidParting, Refused, TooMany
from thirdcounts.made.products import inside, power
from thirdcounts.moving.groups import (
    MAX_MAKERS, MAX_SEARCHED, dual_parting, group_elements, group_rows, group_scheme, group_sum, is_kept, is_makers, is_moves_paper, kept_move,
    lot_sum, moves_paper, scheme_of_moves
)
from thirdcounts.pairs.counts import counts_of
from thirdcounts.pairs.schemes import Scheme, is_scheme_table

EXAMPLES = """
>>> SHIFT = (1, 2, 3, 4, 0)
>>> [scheme_of_moves((SHIFT, (0, 4, 3, 2, 1))) == Scheme.by_ring(5), is_kept(CUBE, (0, 2, 1, 3, 4, 6, 5, 7)), is_kept(CUBE, (1, 0, 2, 3, 4, 5, 6, 7)), kept_move(Scheme.lone(2), (0, 1), (1, 0))]
[True, True, False, (1, 0)]
>>> TWISTED = group_scheme((4, 4), ((1, 3, 4, 5, 12, 15), (2, 6, 7, 8, 9, 10, 11, 13, 14)))
>>> [TWISTED.valencies, moves_paper(TWISTED)[0], is_moves_paper(PAIRS, ("pairs", 0, 1, 0, 2))]
[(1, 6, 9), 'pairs', False]
>>> [group_elements((2, 3))[:4], group_sum((2, 3), 4, 5), lot_sum((4, 4), (1, 3, 4, 5, 12, 15), 2), dual_parting((2, 2), ((1, 2), (3,))), dual_parting((6,), ((1, 5), (2, 3, 4)))]
[((0, 0), (0, 1), (0, 2), (1, 0)), 0, -2, ((1, 2), (3,)), ((1, 5), (2, 4), (3,))]
>>> group_rows((4, 4), ((1, 3, 4, 5, 12, 15), (2, 6, 7, 8, 9, 10, 11, 13, 14)))
((1, 6, 9), (1, 2, -3), (1, -2, 1))
>>> scheme_of_moves((SHIFT,))
raises Refused(('turned', 1))
"""

TWISTED = Scheme(samples.TWISTED)
# All moduli but for their sequence.
MODULI = [(2,), (3,), (4,), (6,), (2, 2), (2, 3), (3, 2), (2, 4), (4, 2), (4, 4), (2, 6), (6, 2), (3, 3), (3, 6), (2, 2, 2), (2, 2, 4), (2, 4, 4), (4, 2, 4)]
MODULI += [(2, 2, 2, 2), (2, 2, 2, 4), (2,) * 5, (3, 3, 3), (2, 2, 3), (2, 2, 6), (2, 3, 3), (2, 2, 2, 3)]


def closed_group(moves):
    """All products of moves."""
    size = len(moves[0])
    found, waiting = {tuple(range(size))}, [tuple(range(size))]
    while waiting:
        one = waiting.pop()
        for move in moves:
            told = tuple([move[place] for place in one])
            if told not in found:
                found.add(told)
                waiting.append(told)
    return found


def joined(moves):
    """For each pair the least pair that is joined with it."""
    size = len(moves[0])
    group = closed_group(moves)
    return {(x, y): min((move[x], move[y]) for move in group) for x in range(size) for y in range(size)}


def kept_by_hand(scheme):
    size = scheme.size
    return [move for move in permutations(range(size)) if all(scheme.table[move[x]][move[y]] == scheme.table[x][y] for x in range(size) for y in range(size))]


def elements_of(moduli):
    return list(product(*[range(modulus) for modulus in moduli]))


def opposite(moduli, point):
    told = elements_of(moduli)
    return told.index(tuple([-entry % modulus for entry, modulus in zip(told[point], moduli)]))


def sum_by_hand(moduli, lot, point):
    told = elements_of(moduli)
    total = 0
    for member in lot:
        total += math.cos(2 * math.pi * sum(a * x / m for a, x, m in zip(told[point], told[member], moduli)))
    assert abs(total - round(total)) < 1e-9
    return round(total)


def drawn_turning(draw, moduli, most=10):
    """A parting of 1 to 10 lots with opposites."""
    size = math.prod(moduli)
    pairs = sorted({tuple(sorted({point, opposite(moduli, point)})) for point in range(1, size)})
    many = draw.randint(1, min(most, len(pairs)))
    while True:
        lots = {}
        for pair in pairs:
            lots.setdefault(draw.randrange(many), []).extend(pair)
        if lots:
            return tuple(sorted([tuple(sorted(lot)) for lot in lots.values()]))


class Examples(unittest.TestCase):

    def test_examples(self):
        self.assertEqual(run_examples(self, EXAMPLES, dict(globals())), 5)
        self.assertEqual((MAX_MAKERS, MAX_SEARCHED), (20, 16))


class Makers(unittest.TestCase):

    def test_is_makers(self):
        for size in range(1, 4):
            moves = list(permutations(range(size)))
            for many in range(1, 3):
                for some in product(moves, repeat=many):
                    self.assertIs(is_makers(some), True)
        wide = tuple(range(32))
        self.assertIs(is_makers((wide,) * 20), True)
        self.assertIs(is_makers((wide,) * 21), False)
        self.assertIs(is_makers((tuple(range(33)),)), False)
        self.assertIs(is_makers(((0, 1), (0, 1, 2))), False)
        self.assertIs(is_makers(()), False)
        self.assertIs(is_makers(((),)), False)

    def test_scheme_of_moves(self):
        draw = random.Random(14)
        found = Counter()
        for _ in range(500):
            size = draw.randint(1, 6)
            moves = tuple([tuple(draw.sample(range(size), size)) for _ in range(draw.randint(1, 3))])
            if draw.random() < 0.5:
                moves = (tuple([(x + 1) % size for x in range(size)]),) + moves[1:]
            told = joined(moves)
            reasons = [("points", x) for x in range(size) if told[x, x] != told[0, 0]]
            reasons += [("turned", y) for y in range(size) if told[0, y] != told[y, 0]]
            if reasons:
                error = error_of(scheme_of_moves, moves)
                self.assertEqual((type(error), error.reason), (Refused, reasons[0]))
                found[reasons[0][0]] += 1
            else:
                firsts = []
                for y in range(size):
                    if told[0, y] not in firsts:
                        firsts.append(told[0, y])
                table = tuple([tuple([firsts.index(told[x, y]) for y in range(size)]) for x in range(size)])
                self.assertEqual(scheme_of_moves(moves).table, table)
                self.assertTrue(all(is_kept(Scheme(table), move) for move in moves))
                found["scheme"] += 1
        self.assertGreater(min(found["points"], found["turned"], found["scheme"]), 30)

    def test_rings(self):
        for size in range(1, 33):
            turn, flip = tuple([(x + 1) % size for x in range(size)]), tuple([-x % size for x in range(size)])
            if size <= 20:
                self.assertEqual(scheme_of_moves((turn, flip)), Scheme.by_ring(size))
                self.assertEqual(scheme_of_moves((flip, turn) * 10), Scheme.by_ring(size))
            elif size > 21:
                error = error_of(scheme_of_moves, (turn, flip))
                self.assertEqual((type(error), error.limit), (TooMany, 10))
            else:
                self.assertEqual(scheme_of_moves((turn, flip)).most, 10)
            if size > 2:
                self.assertEqual(error_of(scheme_of_moves, (turn,)).reason, ("turned", 1))
                self.assertEqual(error_of(scheme_of_moves, (flip,)).reason, ("points", 1))
        shift = tuple([(x + 1) % 32 for x in range(32)])
        self.assertEqual(error_of(scheme_of_moves, (shift,)).reason, ("turned", 1))
        self.assertEqual(scheme_of_moves(((0,),)), Scheme.lone(1))
        swap = (1, 0) + tuple(range(2, 32))
        self.assertEqual(scheme_of_moves((shift, swap)), Scheme.lone(32))
        # The point 2 is joined with 0, the point 1 is not; (0, 2) is joined with (2, 0).
        self.assertEqual(error_of(scheme_of_moves, ((2, 1, 0),)).reason, ("points", 1))
        self.assertEqual(error_of(scheme_of_moves, ((1, 2, 0),)).reason, ("turned", 1))


class Moves(unittest.TestCase):

    def test_kept_moves(self):
        small = [Scheme.lone(4), Scheme.by_ring(6), Scheme.by_ring(5), Scheme(PRISM_TABLE), Scheme.by_sharing(4, 2), Scheme.by_ring(7), Scheme.lone(1)]
        for scheme in small:
            told = kept_by_hand(scheme)
            pairs = list(product(range(scheme.size), repeat=2))
            reached = {(x, y, move[x], move[y]) for move in told for x, y in pairs}
            for one, other in product(pairs, repeat=2):
                move = kept_move(scheme, one, other)
                self.assertIs(move is not None, one + other in reached)
                if move is not None:
                    self.assertTrue(move in told and (move[one[0]], move[one[1]]) == other)
        prisms = kept_by_hand(Scheme(PRISM_TABLE))
        for move in permutations(range(6)):
            self.assertIs(is_kept(Scheme(PRISM_TABLE), move), move in prisms)

    def test_is_kept(self):
        scheme = Scheme.by_ring(6)
        told = kept_by_hand(scheme)
        self.assertEqual(len(told), 12)
        for move in permutations(range(6)):
            self.assertIs(is_kept(scheme, move), move in told)
        for wrong in [(0, 1, 2, 3, 4), (0, 1, 2, 3, 4, 5, 6), (0, 0, 0, 0, 0, 0), (False, 1, 2, 3, 4, 5), [0, 1, 2, 3, 4, 5], (0, 1, 2, 3, 4, 6), None]:
            self.assertIs(is_kept(scheme, wrong), False)

    def test_papers(self):
        found = Counter()
        more = [TWISTED, power(Scheme.lone(4), 2), power(Scheme.by_ring(4), 2), inside(Scheme.lone(2), Scheme.by_ring(8)), inside(Scheme.by_ring(8), Scheme.lone(2))]
        for scheme in list(schemes()) + more:
            if scheme.size > 16:
                for call in [lambda: moves_paper(scheme), lambda: is_moves_paper(scheme, None), lambda: kept_move(scheme, (0, 1), (0, 1))]:
                    self.assertEqual(error_of(call).limit, 16)
                continue
            paper = moves_paper(scheme)
            found[paper[0]] += 1
            self.assertIs(is_moves_paper(scheme, paper), True)
            if paper[0] == "moves":
                makers = paper[1]
                self.assertTrue(is_makers(makers) and all(is_kept(scheme, move) for move in makers))
                # Each of them is needed, so that there are never more than the document allows.
                for move in makers if len(makers) > 1 else ():
                    self.assertIs(is_moves_paper(scheme, ("moves", tuple([other for other in makers if other != move]))), False)
                again = scheme_of_moves(paper[1])
                names = [scheme.table[0][again.table[0].index(kind)] for kind in range(again.most + 1)]
                self.assertEqual(again.renumbered(tuple(names)), scheme)
            else:
                x, y, u, w = paper[1:]
                self.assertEqual(scheme.kind_of(x, y), scheme.kind_of(u, w))
                self.assertIs(kept_move(scheme, (x, y), (u, w)), None)
        self.assertGreater(found["moves"], 30)
        self.assertGreater(found["pairs"], 0)
        self.assertEqual(moves_paper(Scheme.lone(1)), ("moves", ((0,),)))
        self.assertEqual(error_of(moves_paper, Scheme.by_ring(17)).limit, 16)
        self.assertEqual(moves_paper(Scheme.by_ring(16))[0], "moves")

    def test_twisted(self):
        # The points that are round a point and another one are joined in more ways than one.
        pairs = list(product(range(16), repeat=2))
        against = [other for other in pairs if TWISTED.kind_of(*other) == TWISTED.kind_of(0, 2) and kept_move(TWISTED, (0, 2), other) is None]
        self.assertTrue(against)
        for other in pairs:
            self.assertIs(is_moves_paper(TWISTED, ("pairs", 0, 2) + other), other in against)
            self.assertIs(is_moves_paper(TWISTED, ("pairs",) + other + (0, 2)), other in against)
            self.assertIs(is_moves_paper(TWISTED, ("moves", 0, 2) + other), False)
        for wrong in [("pairs", 0, 2, 0, 16), ("pairs", 0, 16, 0, 2), ("pairs", 0, 2, 0, True), ("pairs", -1, 2, 0, 6), ("pairs", 0, 2, 0, -1), (("pairs",), 0, 2, 0, 6)]:
            self.assertIs(is_moves_paper(TWISTED, wrong), False)
        makers = tuple([tuple([group_sum((4, 4), point, step) for point in range(16)]) for step in (1, 4)])
        self.assertTrue(all(is_kept(TWISTED, move) for move in makers))
        self.assertIs(is_moves_paper(TWISTED, ("moves", makers)), False)

    def test_is_moves_paper(self):
        turn, flip = (1, 2, 3, 4, 0), (0, 4, 3, 2, 1)
        ring = Scheme.by_ring(5)
        for move in [(1, 0, 2), (0,), (1, 0, 3, 2)]:
            self.assertIs(is_moves_paper(Scheme.lone(2), ("moves", (move,))), False)
        for makers, wanted in [
            ((turn, flip), True), ((turn,), False), ((flip,), False), ((flip, turn, turn), True), ((turn, flip) * 10, True), ((turn, flip) * 11, False),
            ((turn, flip, (1, 0, 2, 3, 4)), False), ((turn, flip, (0, 1, 2, 3)), False), ((turn, flip, (0, 1, 2, 3, 4)), True), ((), False),
            ((turn, (0, True, 2, 3, 4), flip), False), ([turn, flip], False), ((turn, list(flip)), False), ((0, 1, 2, 3, 4), False),
        ]:
            self.assertIs(is_moves_paper(ring, ("moves", makers)), wanted)
        for value in [("move", (turn, flip)), ("moves", (turn, flip), ()), ("moves",), ["moves", (turn, flip)], ("pairs", 0, 1, 2, 3), ("pairs", 0, 1, 0, 2), ("pairs", 0, 1), ()]:
            self.assertIs(is_moves_paper(ring, value), False)

    def test_errors(self):
        for pair in [(0,), (0, 8), (-1, 0), (0, True), [0, 1], None, (0, 1, 2)]:
            self.assertIs(type(error_of(kept_move, CUBE, pair, (0, 1))), InvalidOperation)
            self.assertIs(type(error_of(kept_move, CUBE, (0, 1), pair)), InvalidOperation)
        wide = Scheme.by_ring(17)
        self.assertIs(type(error_of(kept_move, wide, (0, 17), (0, 1))), InvalidOperation)
        self.assertEqual(error_of(kept_move, wide, (0, 16), (0, 1)).limit, 16)
        self.assertEqual(kept_move(CUBE, (0, 1), (0, 3)), None)
        self.assertEqual(error_of(is_moves_paper, wide, ("moves", ())).limit, 16)
        self.assertIs(type(error_of(scheme_of_moves, ((0, 1), (1, 1)))), InvalidMoves)


class Groups(unittest.TestCase):

    def test_elements(self):
        for moduli in MODULI:
            told = elements_of(moduli)
            self.assertEqual(group_elements(moduli), tuple(told))
            for one, other in list(product(range(len(told)), repeat=2))[::5]:
                total = tuple([(a + b) % m for a, b, m in zip(told[one], told[other], moduli)])
                self.assertEqual(group_sum(moduli, one, other), told.index(total))

    def test_moduli(self):
        for many in range(0, 7):
            for moduli in product(range(1, 8), repeat=many) if many < 4 else product((2, 3, 4), repeat=many):
                right = 1 <= many <= 5 and all(m in (2, 3, 4, 6) for m in moduli) and math.prod(moduli) <= 32
                right = right and not (4 in moduli and (3 in moduli or 6 in moduli))
                self.assertIs(error_of(group_elements, moduli) is None, right, moduli)

    def test_sums(self):
        draw = random.Random(5)
        for moduli in MODULI:
            size = math.prod(moduli)
            for _ in range(6):
                some = draw.sample(range(size), draw.randint(1, size))
                lot = tuple(sorted({other for point in some for other in (point, opposite(moduli, point))}))
                for point in draw.sample(range(size), min(5, size)):
                    self.assertEqual(lot_sum(moduli, lot, point), sum_by_hand(moduli, lot, point))
                some = tuple(sorted(some))
                lacking = [point for point in some if opposite(moduli, point) not in some]
                if lacking:
                    error = error_of(lot_sum, moduli, some, 0)
                    self.assertEqual((type(error), error.reason), (Refused, ("opposite", lacking[0])))
        self.assertEqual(lot_sum((2,), (0,), 1), 1)
        self.assertEqual(lot_sum((2,), (1,), 1), -1)

    def test_partings(self):
        draw = random.Random(6)
        found = Counter()
        for moduli in MODULI:
            for _ in range(12):
                lots = drawn_turning(draw, moduli, draw.choice([2, 3, 4, 10]))
                size = math.prod(moduli)
                rows = [(1,) + tuple([sum_by_hand(moduli, lot, point) for lot in lots]) for point in range(size)]
                dual = tuple(sorted([tuple([p for p in range(1, size) if rows[p] == row]) for row in set(rows[1:])]))
                self.assertEqual(dual_parting(moduli, lots), dual)
                self.assertEqual(group_rows(moduli, lots), tuple(sorted(set(rows), reverse=True)))
                self.assertTrue(all(opposite(moduli, p) in lot for lot in dual for p in lot))
                table = samples.in_group(moduli, lots)
                wanted = is_scheme_table(table)
                found[wanted] += 1
                self.assertIs(len(dual) == len(lots), wanted)
                self.assertGreaterEqual(len(dual), len(lots))
                if not wanted:
                    error = error_of(group_scheme, moduli, lots)
                    self.assertEqual((type(error), error.reason), (Refused, ("scheme",)))
                    continue
                self.check_scheme(moduli, lots, dual, table)
        self.assertGreater(min(found.values()), 40)

    def check_scheme(self, moduli, lots, dual, table):
        scheme = group_scheme(moduli, lots)
        self.assertEqual(scheme.table, table)
        self.assertEqual(first_table(counts_of(scheme)), group_rows(moduli, lots))
        self.assertEqual(dual_parting(moduli, dual), lots)
        turned = group_scheme(moduli, dual)
        second = second_table(counts_of(scheme))
        rows = sorted([sorted(row) for row in second])
        self.assertEqual(sorted([sorted([(entry, 1) for entry in row]) for row in first_table(counts_of(turned))]), rows)

    def test_not_schemes_of_moves(self):
        self.assertEqual(group_scheme((4, 4), ((1, 3, 4, 5, 12, 15), (2, 6, 7, 8, 9, 10, 11, 13, 14))), TWISTED)
        self.assertEqual(moves_paper(TWISTED)[0], "pairs")
        self.assertNotEqual(len(dual_parting((6,), ((1, 5), (2, 3, 4)))), 2)

    def test_many_dual_lots(self):
        # Ten lots of 31 points can have more than ten dual ones.
        lots = tuple([(point,) for point in range(1, 10)]) + (tuple(range(10, 32)),)
        self.assertGreater(len(dual_parting((2,) * 5, lots)), 10)
        eleven = tuple([(point,) for point in range(1, 11)]) + (tuple(range(11, 32)),)
        for call in [dual_parting, group_rows, group_scheme]:
            self.assertIs(type(error_of(call, (2,) * 5, eleven)), InvalidParting)
        self.assertEqual(error_of(group_scheme, (2,) * 5, lots).reason, ("scheme",))

    def test_errors(self):
        self.assertIs(type(error_of(lot_sum, (2, 3), (), 0)), InvalidLot)
        self.assertIs(type(error_of(lot_sum, (2, 3), (1, 6), 9)), InvalidLot)
        self.assertEqual(error_of(lot_sum, (2, 3), (1,), 6).given, 6)
        self.assertEqual(error_of(lot_sum, (2, 3), (1, 3, 4), 5).reason, ("opposite", 1))
        self.assertEqual(error_of(lot_sum, (2, 3), (0, 2, 3), 5).reason, ("opposite", 2))
        self.assertIs(type(error_of(lot_sum, (3, 4), (), 9)), InvalidOperation)
        self.assertEqual((type(error_of(group_sum, (2, 3), 6, 7)), error_of(group_sum, (2, 3), 6, 7).given), (InvalidNumber, 6))
        for lots in [((1, 2), (3, 4, 5)), ((1, 5), (2,), (3,), (4,)), ((1, 5), (2, 4)), ((1, 5), (2, 4), (3, 6)), ((0, 1, 5), (2, 4), (3,)), ((2, 4), (1, 5), (3,)), ()]:
            self.assertIs(type(error_of(dual_parting, (6,), lots)), InvalidParting)
        self.assertEqual(dual_parting((2,), ((1,),)), ((1,),))
        self.assertEqual(group_scheme((2,), ((1,),)), Scheme.lone(2))


if __name__ == "__main__":
    unittest.main()
