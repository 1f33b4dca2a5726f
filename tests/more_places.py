"""Each function of stages 12 to 19 with a valid argument at each place, and what is wrong there."""

from tests.places import BASE, CORNERS, FEW, TABLES, Place, ascending, integer, listed, order, scheme, some_counts, sum_of_kinds
from tests.samples import CUBE, PAIRS, SQUARE, TEN
from tests.support import LONG, NO_FRACTIONS
from thirdcounts.errors import InvalidKinds, InvalidLot, InvalidMoves, InvalidOperation, InvalidParting
from thirdcounts.kin import families
from thirdcounts.kin.families import Family
from thirdcounts.lots import bounds, counting, meeting
from thirdcounts.made import fusions, products
from thirdcounts.moving import groups
from thirdcounts.pairs.counts import counts_of
from thirdcounts.pairs.schemes import Scheme
from thirdcounts.use import desk

THREE = counts_of(Scheme.lone(3))
EVEN, ENDS = (0, 3, 5, 6), (0, 7)


def all_partings(*arguments):
    return list(fusions.all_partings(*arguments))


def each_greatest(*arguments):
    return list(meeting.each_greatest(*arguments))


def parting(valid, low, high):
    """A parting of the integers from `low` to `high`, at least three."""
    whole = tuple(range(low, high + 1))
    wrong = [
        0, 1, (), ((),), (whole,) * 2, (whole, ()), ((), whole), (whole[:-1],), (whole + (high + 1,),), ((low - 1,) + whole,), whole, [whole], ([low],),
        (whole[::-1],), (whole[1:], whole[:1]), (whole[:1], whole[:1], whole[1:]), (whole[:2], whole[1:]), (whole[:1], whole[2:]), listed(valid),
        (whole[:1], list(whole[1:])), (whole[:1] + (True,) + whole[1:],), (whole[:1], whole[1:], (high + 1,)), (whole[1:],), (whole, 1), (whole, None),
        tuple([((entry, 1),) for entry in whole]), tuple([(str(entry),) for entry in whole]), ((LONG,),), ((low, low) + whole[1:],), ({low: 1},),
        tuple([(entry,) for entry in whole[::-1]]), (whole[-1:], whole[:-1]), tuple([(bool(entry),) for entry in whole]), dict.fromkeys(whole), ((None,),),
    ]
    return Place(valid, InvalidParting, BASE + TABLES + wrong)


def turning(valid, low, high):
    place = parting(valid, low, high)
    place.wrong += [((1, 2, 3, 4), (5,)), ((1, 2), (3, 4, 5)), ((1,), (2, 3, 4, 5)), tuple([(entry,) for entry in range(1, high + 1)])]
    return place


def lot(valid, size):
    place = ascending(valid, 0, size - 1, InvalidLot)
    place.wrong = place.wrong + [(), ((0, 1),), listed(valid), valid + (size,), (-1,) + valid, valid[::-1], (True,), (False, 1), (0, 1, 1), set(valid)]
    return place


def kinds_set(valid, most):
    return ascending(valid, 1, most, InvalidKinds)


def moves(valid):
    wrong = [
        0, 1, (), ((),), ((0, 0),), ((1,),), ((0, 1), (0,)), ((0, 1), (1, 2)), ((0, 1), (1, 1)), [(0, 1)], ([0, 1],), ((0, 1), [1, 0]), ((0, True),), ((False, 1),),
        (0, 1), ((0, 1),) * 21, (tuple(range(33)),), ((0, (1, 1)),), ((0, 1), None), ((0, "1"),), ((-1, 0),), ((0, LONG),), ((0, 1), ()), {(0, 1): 1}, ((1, 2),),
    ]
    return Place(valid, InvalidMoves, BASE + TABLES + wrong)


def pair(valid, size):
    wrong = [
        0, (), (0,), (0, 1, 2), (0, size), (-1, 0), (0, True), (False, 0), [0, 1], ((0, 1), 1), (0, (1, 1)), ("0", 1), (0, None), (LONG, 0), (size, 0), {0: 1},
    ]
    return Place(valid, InvalidOperation, [value for value in BASE + TABLES + wrong if value != (1, 2)])


def moduli(valid):
    wrong = [
        0, 2, (), (1,), (5,), (7,), (8,), (0,), (-2,), (3, 4), (4, 3), (4, 6), (6, 4), (2, 3, 4), (6, 6), (2, 2, 2, 2, 3), (2,) * 6, (4, 4, 3), (3, 3, 3, 2), (True, 2), (2, True),
        ((2, 1), 3), [2, 3], (2, None), ("2", 3), (2, (3,)), (LONG, 2), (2, 3, 1), (32,), (3, 3, 4), (6, 2, 4), {2: 3}, (2, -3), (4, 4, 4), (3, 6, 2), ((2, 3),), (2, 2, 3, 3),
    ]
    return Place(valid, InvalidOperation, BASE + TABLES + [value for value in wrong if value not in ((3, 6, 2), (2, 2, 3, 3))] + [(2, 2, 3, 3), (3, 6, 2)])


def paper(valid):
    """A tuple of fractions from 0 on, the first one 1."""
    place = sum_of_kinds(valid, InvalidOperation)
    ends = [valid[:-1] + (entry,) for entry in (0, 1, (-1, 2), (-1, 1), (2, 4), (0, 2), (0, 0), 1)]
    place.wrong = place.wrong + ends + [(1,) + valid[1:], ((2, 1),) + valid[1:], ((0, 1),) + valid[1:], ((1, 2),) + valid[1:], ((-1, 1),) + valid[1:]]
    return place


def row(valid):
    """A row with a sum other than 0 and without dual counts below 0, for the counts FEW."""
    place = sum_of_kinds(valid, InvalidOperation)
    ends = [valid[:-1] + (entry,) for entry in (0, 1, (2, 4), (0, 2), (0, 0), (100, 1), (-100, 1))]
    place.wrong = place.wrong + ends + [(1,) + valid[1:], ((2, 1),) + valid[1:], ((0, 1),) + valid[1:], ((1, 1), (0, 1), (-1, 1)), ((1, 1), (-1, 2), (-1, 2))]
    return place


NUMBERS = Place((1, 0, (1, 2), 1), InvalidOperation, sum_of_kinds((1, 0, (1, 2), 1)).wrong)
LOTS = [scheme(CUBE), lot(EVEN, 8)]
TWO_LOTS = [scheme(CUBE), lot(EVEN, 8), lot(ENDS, 8)]
ORDERED = [scheme(CUBE), order((0, 1, 2, 3)), lot(EVEN, 8)]
SOME_KINDS = [some_counts(FEW), kinds_set((1,), 2)]
KEPT_KINDS = [scheme(CUBE), kinds_set((1, 3), 3)]
GROUP = [moduli((6,)), turning(((1, 5), (2, 3, 4)), 1, 5)]
SCHEME_GROUP = [moduli((6,)), turning(((1, 5), (2, 4), (3,)), 1, 5)]
PARTED = [some_counts(CORNERS), parting(((1, 3), (2,)), 1, 3)]
POINTS = [scheme(CUBE), parting((EVEN, (1, 2, 4, 7)), 0, 7)]

MORE_CALLS = [
    (products.beside, [scheme(Scheme.lone(2)), scheme(Scheme.lone(3))]),
    (products.inside, [scheme(Scheme.lone(2)), scheme(Scheme.lone(3))]),
    (products.power, [scheme(Scheme.lone(3)), integer(2, 1, 10)]),
    (products.power_types, [integer(2, 0, 10), integer(2, 1, 10)]),
    (products.beside_counts, [some_counts(THREE), some_counts(FEW)]),
    (products.inside_counts, [some_counts(THREE), some_counts(FEW)]),
    (products.power_counts, [some_counts(THREE), integer(2, 1, 10)]),
    (products.beside_table, [some_counts(THREE), some_counts(FEW)]),
    (products.inside_table, [some_counts(THREE), some_counts(FEW)]),
    (products.power_table, [some_counts(THREE), integer(2, 1, 10)]),
    (fusions.is_fusion, PARTED),
    (fusions.fusion_fault, PARTED),
    (fusions.fused_counts, PARTED),
    (fusions.fused, [scheme(CUBE), parting(((1, 3), (2,)), 1, 3)]),
    (fusions.spaces_parting, PARTED),
    (all_partings, [some_counts(CORNERS)]),
    (fusions.all_fusions, [some_counts(CORNERS)]),
    (fusions.common_parting, PARTED + [parting(((1, 2), (3,)), 1, 3)]),
    (fusions.met_parting, PARTED + [parting(((1, 2), (3,)), 1, 3)]),
    (fusions.fused_twice, [some_counts(CORNERS), parting(((1,), (2,), (3,)), 1, 3), parting(((1, 2), (3,)), 1, 3)]),
    (groups.scheme_of_moves, [moves(((1, 2, 3, 4, 0), (0, 4, 3, 2, 1)))]),
    (groups.kept_move, [scheme(CUBE), pair((0, 1), 8), pair((2, 3), 8)]),
    (groups.moves_paper, [scheme(CUBE)]),
    (groups.group_elements, [moduli((2, 3))]),
    (groups.group_sum, [moduli((2, 3)), integer(4, 0, 5), integer(5, 0, 5)]),
    (groups.lot_sum, [moduli((2, 3)), lot((1, 2, 3), 6), integer(5, 0, 5)]),
    (groups.group_scheme, SCHEME_GROUP),
    (groups.dual_parting, GROUP),
    (groups.group_rows, GROUP),
    (counting.inner_counts, LOTS),
    (counting.dual_counts, LOTS),
    (counting.outer_counts, LOTS + [integer(1, 0, 7)]),
    (counting.dual_row, [some_counts(CORNERS), NUMBERS]),
    (counting.inner_row, [some_counts(CORNERS), NUMBERS]),
    (counting.degree, LOTS),
    (counting.dual_degree, LOTS),
    (counting.rest_of, LOTS),
    (counting.strength, ORDERED),
    (counting.size_bounds, ORDERED),
    (counting.farthest, ORDERED),
    (counting.least_distance, ORDERED),
    (counting.is_perfect, ORDERED),
    (counting.lot_scheme, LOTS),
    (bounds.bound, SOME_KINDS),
    (bounds.partner, SOME_KINDS),
    (bounds.loose_bound, SOME_KINDS),
    (bounds.bound_row, SOME_KINDS),
    (bounds.bound_paper, SOME_KINDS),
    (bounds.partner_row, SOME_KINDS),
    (bounds.lots_bound, SOME_KINDS),
    (bounds.paper_worth, [some_counts(FEW), paper(((1, 1), (0, 1), (3, 5)))]),
    (bounds.row_of_paper, [some_counts(FEW), paper(((1, 1), (0, 1), (3, 5)))]),
    (bounds.paper_of_row, [some_counts(FEW), row(((1, 1), (0, 1), (3, 2)))]),
    (meeting.pair_sum, TWO_LOTS),
    (meeting.are_across, TWO_LOTS),
    (meeting.common_number, [lot(EVEN, 32), lot(ENDS, 32)]),
    (meeting.does_keep, KEPT_KINDS + [lot(EVEN, 8)]),
    (meeting.greatest_size, KEPT_KINDS),
    (meeting.greatest_lot, KEPT_KINDS),
    (each_greatest, KEPT_KINDS),
    (meeting.tight_lots, KEPT_KINDS),
    (meeting.parting_numbers, POINTS),
    (meeting.means_table, POINTS),
    (meeting.rings_of, LOTS),
    (meeting.is_even_lot, LOTS),
    (families.ball_poly, [integer(7, 1, 30), integer(2, 2, 9), integer(3, 0, 7)]),
    (Family.words, [integer(7, 1, 30), integer(2, 2, 9)]),
    (Family.subsets, [integer(6, 1, 40), integer(3, 0, 6)]),
    (Family.subspaces, [integer(4, 1, 12), integer(2, 0, 4), integer(3, 2, 9)]),
    (Family.forms, [integer(2, 1, 6), integer(3, 2, 12), integer(7, 2, 9)]),
    (Family.words(7, 2).eigenvalue, [integer(3, 0, 7), integer(5, 0, 7)]),
    (Family.subsets(6, 3).number, [integer(3, 0, 3), integer(1, 0, 3), integer(2, 0, 3)]),
    (Family.words(7, 2).ball, [integer(1, 0, 7)]),
    (Family.words(7, 2).ball_zeros, [integer(1, 0, 7)]),
    (Family.words(7, 2).perfect_fault, [integer(1, 0, 7)]),
    (desk.Desk, [scheme(CUBE)]),
]

ONE = (1, 1)
MORE_JUDGES = [
    (fusions.is_parting, [some_counts(CORNERS)], [((1, 3), (2,)), ((1, 2, 3),)]),
    (fusions.is_fusion_fault, [some_counts(CORNERS), parting(((1,), (2, 3)), 1, 3)], [(1, 1, 2, 3), (1, 1, 3, 2)]),
    (groups.is_makers, [], [((0,),), ((1, 0), (0, 1)), ((0, 1),) * 20]),
    (groups.is_kept, [scheme(CUBE)], [(0, 2, 1, 3, 4, 6, 5, 7), tuple(range(8))]),
    (groups.is_moves_paper, [scheme(Scheme.lone(2))], [("moves", ((1, 0),)), ("moves", ((0, 1), (1, 0)))]),
    (bounds.is_passing, SOME_KINDS, [(ONE, (3, 1), (0, 1)), (ONE, (1, 2), (0, 1)), (ONE, (0, 1), (0, 1))]),
    (bounds.is_bound_row, SOME_KINDS, [(ONE, (3, 1), (0, 1))]),
    (bounds.is_bound_paper, SOME_KINDS, [(ONE, (0, 1), (3, 5)), (ONE, (0, 1), (2, 1))]),
    (bounds.is_partner_row, SOME_KINDS, [(ONE, (0, 1), (3, 2)), (ONE, (0, 1), (0, 1))]),
    (meeting.is_greatest_lot, KEPT_KINDS, [(0, 1), (0, 7)]),
    (meeting.is_tight_lots, [scheme(CUBE), kinds_set((2,), 3)], [((0, 3, 5, 6), (0, 1)), ((1, 2, 4, 7), (0, 7))]),
    (meeting.is_points_parting, [scheme(CUBE)], [(EVEN, (1, 2, 4, 7)), (tuple(range(8)),), ((0, 1), (2, 3, 4, 5, 6, 7))]),
    (meeting.is_equal_parting, [scheme(CUBE)], [(EVEN, (1, 2, 4, 7)), (tuple(range(8)),)]),
    (desk.is_pledge, [], [
        ("keeps", "a", (2,)), ("keeps", "abcdefgh", ()), ("degree", "a", 0), ("meets", "a", "b", 3), ("pairs", "a", 0, (1, 2)), ("pairs", "a", 10, -5),
    ]),
]

# What looks right at one of these places, but for one thing.
MORE_CLOSE = [
    ((1, 3), (2, True)), ((True, 3), (2,)), ((1, 3), [2]), ((2,), (1, 3)), ((1, 2), (2, 3)), ((1, 2), ()), (1, 1, 2, 2), (True, 1, 2, 3), (1, True, 2, 3), (1, 1, 2, 4),
    (-1, 1, 2, 3), (1, 1, -2, 3), (1, 1, 2), (1, 1, 2, 3, 0), (0, 0, 2, 3), (3, 1, 2, 3), (1, 1, 0, 0), ((0, True),), ((0, 0),), ((1, 0), (0,)), ((0, 1),) * 21,
    (0, 2, 1, 3, 4, 6, 5), (0, 2, 1, 3, 4, 6, 5, 8), (False, 2, 1, 3, 4, 6, 5, 7), (1, 0, 2, 3, 4, 5, 6, 7), ("moves",), ("moves", ()), ("moves", ((0, 1),)),
    ("moves", ((1, True),)), ("moves", ((0, 1, 2),)), ("pairs", 0, 1, 1, 0), ("pairs", 0, 1, 0, 1), ("pairs", 0, 1, 0), ("pairs", 0, True, 1, 0), ("pairs", 0, 0, 0, 1),
    ("pairs", 0, 2, 0, 1), (1, ((1, 0),)), ("move", ((1, 0),)), (ONE, (3, 1), 0), (1, (3, 1), (0, 1)), (ONE, (3, 1)), (ONE, (3, 1), (0, 1), (0, 1)), (ONE, (6, 2), (0, 1)),
    (ONE, (True, 1), (0, 1)), (ONE, (4, 1), (0, 1)), (ONE, (-1, 1), (0, 1)), (ONE, (0, 1), (-1, 1)), ((2, 1), (3, 1), (0, 1)), (ONE, (0, 1), (1, 1)), (ONE, (0, 1), (3, 5)),
    ((1, 1), (0, 1), (3, -5)), (0, True), (0,), (0, 8), (1, 0), ((0, 3, 5, 6), (0, 2, 4)), ((0, 3, 5, 6), (0, True)), ((0, 3, 5, 6),), ((0, 3, 5), (0, 1)), ((0, 3, 5, 6), 0),
    (EVEN, (1, 2, 4)), (EVEN, (1, 2, 4, 7), ()), (EVEN, [1, 2, 4, 7]), ((1, 2, 4, 7), EVEN), ("keeps", "a", (0,)), ("keeps", "a", (11,)), ("keeps", "a", (2, 1)), ("keeps", "a"),
    ("keeps", "A", (2,)), ("keeps", "", ()), ("keeps", "abcdefghi", ()), ("keeps", 1, ()), ("keeps", "a", [2]), ("keeps", "a", (True,)), ("degree", "a", True), ("degree", "a", -1),
    ("degree", "a", (1, 1)), ("degree", "a", 1, 1), ("degree", "a", LONG), ("meets", "a", "b", True), ("meets", "a", "b"), ("meets", "a", 1, 1), ("pairs", "a", True, 1),
    ("pairs", "a", 11, 1), ("pairs", "a", -1, 1), ("pairs", "a", 1, True), ("pairs", "a", 1, (2, 4)), ("pairs", "a", 1, LONG), ("pairs", "a", 1), ("other", "a", 1), ("other", "a", (2,)), ["degree", "a", 1],
    (("degree",), "a", 1), ("degree", ("a",), 1), ("keeps", "a", (2,), ()), ("keeps", None, (2,)), (None, "a", 1), PAIRS, SQUARE, TEN,
]
MORE_CLOSE += [value for value in NO_FRACTIONS]
