"""Each function and method of stages 4 to 11 with a valid argument at each place, and what is wrong there."""

from tests.samples import CUBE, FIVE_RING, FOUR, PAIRS, PRISM, PRISM_TABLE, SEVEN, TEN
from tests.support import DICTS, LONG, NO_FRACTIONS, NO_NUMBERS, NO_POLYS, NO_VALUES, SIXTY, TEXTS
from thirdcounts.eigen import krein, spaces
from thirdcounts.errors import (
    InvalidCounts, InvalidKinds, InvalidLot, InvalidMoves, InvalidNumber, InvalidOperation, InvalidOrder, InvalidPoly,
    InvalidScheme, InvalidTable, InvalidWeb
)
from thirdcounts.ladder import ladders
from thirdcounts.pairs import counts, schemes
from thirdcounts.pairs.schemes import Scheme
from thirdcounts.parts import closed
from thirdcounts.twokinds import tuples
from thirdcounts.webs import walks
from thirdcounts.webs.walks import Web

FEW, CORNERS = counts.counts_of(PAIRS), counts.counts_of(CUBE)
OBJECTS = [PAIRS, FIVE_RING, Scheme, Web, (PAIRS,), [FIVE_RING], {1: PAIRS}]
BASE = NO_VALUES + TEXTS + DICTS + OBJECTS
TABLES = [PAIRS.table, FEW, TEN, ((1,),), ((1, 2), (3, 4)), (((1,),),)]


def listed(value):
    """The value with all tuples as lists."""
    return [listed(entry) for entry in value] if isinstance(value, tuple) else value


def with_entry(table, entry, *places):
    """The nested tuple with another entry at a place."""
    if not places:
        return entry
    at = places[0]
    return table[:at] + (with_entry(table[at], entry, *places[1:]),) + table[at + 1:]


class Place:
    """A place of a function: a valid value, the error, and wrong values."""

    def __init__(self, valid, error, wrong):
        self.valid, self.error, self.wrong = valid, error, wrong


def integer(valid, low, high):
    edges = [low - 1, high + 1, -SIXTY, SIXTY, (valid, 1), (low, 1), [valid], str(valid), -LONG * LONG]
    return Place(valid, InvalidNumber, BASE + TABLES + NO_FRACTIONS + edges)


def number(valid):
    return Place(valid, InvalidNumber, NO_NUMBERS + OBJECTS + TABLES)


def poly(valid):
    return Place(valid, InvalidPoly, NO_POLYS + OBJECTS + TABLES[:4])


def kinds_table(valid):
    far = tuple([tuple([abs(x - y) for y in range(12)]) for x in range(12)])
    wrong = [
        0, 1, (), ((),), (0,), ((1,),), ((0, 1),), ((0,), (0,)), ((0, 1), (1,)), ((0, 1), (2, 0)), ((0, 2), (2, 0)), ((0, 0), (0, 0)),
        ((1, 0), (0, 1)), ((0, -1), (-1, 0)), ((False, True), (True, False)), ((0, True), (1, 0)), ((0, 1, 1), (1, 0, 0), (1, 0, 0)),
        ((0, (1, 1)), ((1, 1), 0)), [[0, 1], [1, 0]], ((0, 1), [1, 0]), ((0, "1"), ("1", 0)), ((0, None), (None, 0)),
        ((0, 1, 3), (1, 0, 1), (3, 1, 0)), ((0, LONG), (LONG, 0)), far, ((0, 1), (1, 0), (0, 1)), {0: {0: 0}},
        tuple([tuple([int(x != y) for y in range(33)]) for x in range(33)]), ((0, 1, 2), (1, 0, 1), (1, 1, 0)), FEW,
    ]
    return Place(valid, InvalidScheme, BASE + wrong)


def scheme_table(valid):
    bent = ((0, 1, 1, 2, 2), (1, 0, 2, 1, 2), (1, 2, 0, 2, 1), (2, 1, 2, 0, 2), (2, 2, 1, 2, 0))
    path = tuple([tuple([abs(x - y) for y in range(4)]) for x in range(4)])
    return Place(valid, InvalidScheme, kinds_table(valid).wrong + [bent, path, ((0, 1, 2), (1, 0, 1), (2, 1, 0))])


def scheme(valid):
    return Place(valid, InvalidScheme, [value for value in BASE if value is not PAIRS] + [0, PAIRS.table, FEW, Scheme.by_ring])


def counts_table(valid):
    lone = ((1, 0), (0, 3)), ((0, 1), (1, 2))
    wrong = [
        0, 1, (), ((),), (((),),), ((1,),), (1,), (((1,),), ((1,),)), (((1, 0),),), [[[1]]], (((True,),),), (((-1,),),), (((1, 1),),),
        (((10 ** 12 + 1,),),), ((((1, 1),),),), ((("1",),),), (((None,),),), ((((1,),),),), lone[:1], lone + lone[:1], ((lone[0]), 1),
        with_entry(lone, True, 0, 0, 0), with_entry(lone, False, 0, 0, 1), with_entry(lone, (3, 1), 0, 1, 1), with_entry(lone, -1, 1, 1, 1),
        with_entry(lone, [1, 0], 0, 0), with_entry(lone, (1, 0, 0), 0, 0), with_entry(lone, 10 ** 12 + 1, 1, 1, 1), PAIRS.table,
        ((((1,) * 12,) * 12,) * 12), with_entry(lone, LONG, 0, 1, 1), with_entry(lone, None, 1, 0, 0), listed(lone), (((0,) * 2,) * 2,) * 3,
    ]
    return Place(valid, InvalidCounts, BASE + wrong)


def some_counts(valid):
    lone = ((1, 0), (0, 3)), ((0, 1), (1, 2))
    wrong = [
        (((0,),),), (((2,),),), with_entry(lone, 1, 1, 1, 1), with_entry(lone, 2, 0, 1, 1), with_entry(lone, 0, 0, 0, 0),
        with_entry(lone, 1, 0, 0, 1), with_entry(lone, 0, 1, 0, 1), with_entry(lone, 2, 1, 1, 0), with_entry(TEN, 3, 1, 2, 2),
        with_entry(TEN, 1, 0, 2, 1), (((0, 0), (0, 0)),) * 2, (((1, 1), (1, 1)),) * 2, with_entry(lone, 0, 0, 1, 1),
    ]
    return Place(valid, InvalidCounts, counts_table(valid).wrong + wrong)


def sum_of_kinds(valid, error=InvalidKinds):
    few, many = valid[:-1], valid + (1,)
    ends = [few + (entry,) for entry in (True, None, "1", LONG, (2, 4), (1, 0), (1, -2), [1], (1, 2, 3), {}, PAIRS, ((1, 1),))]
    return Place(valid, error, BASE + ends + [0, 1, (), few, many, listed(valid), FEW, ((),), (True,) + valid[1:], dict.fromkeys(valid)])


def sequence(valid, error):
    size = len(valid)
    wrong = [
        0, 1, (0,) * size, valid[:-1], valid + (size,), valid + (0,), listed(valid), tuple([entry + 1 for entry in valid]), (-1,) + valid[1:],
        tuple([(entry, 1) for entry in valid]), tuple([str(entry) for entry in valid]), tuple([bool(entry) for entry in valid]), ((),) * size,
        dict.fromkeys(valid), (LONG,) + valid[1:], valid[:-1] + (None,), (False, True) + valid[2:], valid[:1] + valid[:-1], range(size),
    ]
    return Place(valid, error, BASE + [value for value in wrong if value != valid or True in value])


def order(valid):
    place = sequence(valid, InvalidOrder)
    place.wrong += [valid[::-1], valid[1:] + valid[:1], (1, 0) + valid[2:], (False,) + valid[1:]]
    return place


def ascending(valid, low, high, error):
    wrong = [
        0, 1, (low - 1,), (high + 1,), (low, low), (low + 1, low), [low], (low, high + 1), (low, (high, 1)), (None,), ("1",), ((low,),),
        (low, None), {low: 1}, (LONG,), (-SIXTY, low), (low, low + 1, low + 1), (low, low + 2, low + 1), (True,), (False,), ((low, 1),),
    ]
    return Place(valid, error, BASE + wrong)


def web(valid):
    return Place(valid, InvalidWeb, [value for value in BASE if value is not FIVE_RING] + [0, FIVE_RING.ties, PAIRS, (5, FIVE_RING.ties), Web.walks])


def ties(valid):
    wrong = [
        0, (0, 1), ((0,),), ((0, 1, 2),), ((1, 0),), ((0, 0),), ((0, 5),), ((-1, 1),), ((0, 1), (0, 1)), ((0, 2), (0, 1)), [(0, 1)], ([0, 1],),
        ((0, True),), ((False, 1),), ((0, 1), (1, 5)), ((0, 1), None), (((0, 1),),), ((0, (1, 1)),), {(0, 1): 1}, ((0, LONG),), ((0, "1"),),
        ((1, 2), (0, 3)), ((0, 1), 1), ((0, 1), (1, 2), (1, 2)),
    ]
    keep = [value for value in BASE if value != ()]
    return Place(valid, InvalidWeb, keep + wrong)


def array(valid):
    wrong = [
        0, (), ((),), ((), (), ()), ((1,), ()), ((), (1,)), ((0,), (1,)), ((1,), (0,)), ((1,), (-1,)), ((10 ** 6 + 1,), (1,)),
        ((1,), (10 ** 6 + 1,)), ((1,) * 11, (1,) * 11), ([1], [1]), [(1,), (1,)], ((True,), (1,)), ((1,), (True,)), (((1, 1),), (1,)),
        (1, 1), ((1,), 1), ((1,), (None,)), (("1",), (1,)), ((1, 1), (1,)), {(1,): (1,)}, ((LONG,), (1,)), ((1, 2, 3), (1, 2)),
    ]
    return Place(valid, InvalidOperation, [value for value in BASE if value != ((), ())] + wrong)


def first_rows(valid):
    wrong = [
        0, 1, (), ((),), (1,), ((0,),), ((2,),), ((-1,),), ((True,),), ((1, 1),), ((1,), (1,)), ((1, 4), (1, 4)), ((1, -1), (1, 4)),
        ((1, 4), (1, -5)), ((1, 4), (1, 5)), ((1, 0), (1, 0)), ((1, 0), (1, -1)), ((1, 4), (-1, 1)), ((1, 4), (2, -1)), ((1, 4), (1,)),
        [[1, 4], [1, -1]], ((1, 4), [1, -1]), ((1, (4, 1)), (1, -1)), ((1, 4), (1, (-1, 1))), ((1, 4), (1, None)), ((1, 4), (True, -1)),
        ((1, LONG), (1, -1)), ((1, 4), (1, "1")), ((1, 6, 3), (1, -2, 1), (1, 1, -2)), ((1, 6, 3), (1, 1, -2), (1, 1, -2)),
        ((1, 0, 3), (1, 0, 0), (1, 0, -1)), ((1, 6, 3), (1, 1, -2), (0, -2, 1)), ((1, 6, 3), (1, 1, -4), (1, -2, 1)), ((1, -6, 3), (1, -2, 1), (1, -3, -2)), FEW,
        tuple([(1,) * 12] + [(1,) * at + (-1,) * (12 - at) for at in range(11, 0, -1)]),
    ]
    return Place(valid, InvalidTable, BASE + wrong)


def closed_set(valid, most):
    # What has 0 and is ascending, and yet is not closed, is told by the functions.
    place = ascending(valid, 0, most, InvalidKinds)
    place.wrong = [value for value in place.wrong if value != (0,)] + [(), (1,), (1, 2), (most,), (0, 0), (0, most, 1)]
    return place


COUNTS_ONLY = [
    counts.valencies_of, counts.points_of, spaces.has_integer_values, spaces.first_table, spaces.second_table, spaces.multiplicities,
    spaces.frame_number, krein.krein_table, krein.krein_fault, krein.absolute_fault, ladders.kind_ladders, ladders.space_ladders,
    closed.closed_sets, closed.is_primitive,
]
COUNTS_AND_SPACE = [krein.ball_products, krein.unlike_points, krein.ball_bound, krein.balance]
WEB_ONLY = [
    walks.least_poly_of_web, walks.walk_polys, walks.ones_poly, walks.excess, walks.mean_far, walks.is_distance_scheme, walks.distance_scheme,
    tuples.tuple_of_web, tuples.two_scheme, tuples.odd_triples, tuples.odd_number, tuples.signs_table,
]
TUPLE_ONLY = [tuples.tuple_fault, tuples.is_half, tuples.left_tuple, tuples.tuple_values]

CALLS = [
    (Scheme, [scheme_table(PAIRS.table)]),
    (Scheme.by_sharing, [integer(5, 1, 32), integer(2, 0, 5)]),
    (Scheme.by_places, [integer(3, 1, 5), integer(2, 2, 32)]),
    (Scheme.by_ring, [integer(5, 1, 20)]),
    (Scheme.lone, [integer(5, 1, 32)]),
    (PAIRS.kind_of, [integer(3, 0, 9), integer(9, 0, 9)]),
    (PAIRS.around, [integer(3, 0, 9), integer(2, 0, 2)]),
    (CUBE.number, [integer(3, 0, 3), integer(2, 0, 3), integer(1, 0, 3)]),
    (CUBE.renamed, [sequence((7, 1, 3, 2, 4, 5, 6, 0), InvalidMoves)]),
    (CUBE.renumbered, [order((0, 2, 3, 1))]),
    (schemes.thirds, [kinds_table(PRISM_TABLE), integer(3, 0, 5), integer(5, 0, 5)]),
    (schemes.scheme_fault, [kinds_table(PRISM_TABLE)]),
    (schemes.points_of_words, [integer(3, 1, 5), integer(2, 2, 32)]),
    (schemes.points_of_subsets, [integer(5, 1, 32), integer(2, 0, 5)]),
    (counts.counts_fault, [counts_table(TEN)]),
    (counts.counts_of, [scheme(PAIRS)]),
    (counts.lone_counts, [integer(5, 2, 10 ** 9)]),
    (counts.kinds_product, [some_counts(TEN), sum_of_kinds((1, 2, (1, 2))), sum_of_kinds((0, -1, (3, 2)))]),
    (counts.kinds_pairing, [some_counts(TEN), sum_of_kinds((1, 2, (1, 2))), sum_of_kinds((0, -1, (3, 2)))]),
    (counts.kinds_power, [some_counts(TEN), sum_of_kinds((1, 2, (1, 2))), integer(3, 0, 60)]),
    (counts.walks_by_kinds, [some_counts(TEN), integer(1, 0, 2), integer(5, 0, 200)]),
    (counts.kinds_value, [some_counts(TEN), poly((1, 2, (1, 2))), sum_of_kinds((0, -1, (3, 2)))]),
    (counts.least_poly, [some_counts(TEN), sum_of_kinds((0, -1, (3, 2)))]),
    (counts.kinds_undone, [some_counts(TEN), sum_of_kinds((0, -1, (3, 2)))]),
    (counts.counts_renumbered, [some_counts(CORNERS), order((0, 2, 3, 1))]),
    (counts.counts_order, [some_counts(TEN), some_counts(SEVEN)]),
    (spaces.counts_by_table, [first_rows(((1, 6, 3), (1, 1, -2), (1, -2, 1)))]),
    (spaces.space_values, [some_counts(FEW), sum_of_kinds((0, 1, (1, 3)), InvalidOperation)]),
    (spaces.row_with_values, [some_counts(FEW), sum_of_kinds((0, 1, (1, 3)), InvalidOperation)]),
    (spaces.space_share, [scheme(PAIRS), integer(1, 0, 2)]),
    (krein.krein_number, [some_counts(FEW), integer(1, 0, 2), integer(2, 0, 2), integer(0, 0, 2)]),
    (krein.are_dual, [some_counts(FEW), some_counts(CORNERS)]),
    (krein.ball_mean, [some_counts(FEW), integer(1, 0, 2), integer(5, 0, 12)]),
    (ladders.array_of, [some_counts(CORNERS), order((0, 1, 2, 3))]),
    (ladders.space_array, [some_counts(CORNERS), order((0, 1, 2, 3))]),
    (ladders.array_fault, [array(((3, 2), (1, 1)))]),
    (ladders.ladder_polys, [array(((3, 2), (1, 1)))]),
    (ladders.counts_of_array, [array(((3, 2), (1, 1)))]),
    (Web, [integer(5, 1, 24), ties(FIVE_RING.ties)]),
    (PRISM.distance, [integer(0, 0, 5), integer(5, 0, 5)]),
    (PRISM.walks, [integer(0, 0, 5), integer(5, 0, 5), integer(2, 0, 60)]),
    (walks.moments, [web(PRISM), integer(5, 0, 60)]),
    (walks.web_of_kinds, [scheme(CUBE), ascending((1, 3), 1, 3, InvalidKinds)]),
    (tuples.tuples, [integer(10, 0, 100)]),
    (tuples.switched, [web(FIVE_RING), ascending((1, 2), 0, 4, InvalidLot)]),
    (tuples.switching_points, [web(FOUR), web(Web(4, ()))]),
    (closed.closed_by, [some_counts(CORNERS), ascending((1, 2), 1, 3, InvalidKinds)]),
    (closed.classes_of, [scheme(CUBE), closed_set((0, 2), 3)]),
    (closed.piece, [scheme(CUBE), closed_set((0, 2), 3), integer(5, 0, 7)]),
    (closed.piece_counts, [some_counts(CORNERS), closed_set((0, 3), 3)]),
    (closed.bundles, [some_counts(CORNERS), closed_set((0, 3), 3)]),
    (closed.quotient, [scheme(CUBE), closed_set((0, 3), 3)]),
    (closed.quotient_counts, [some_counts(CORNERS), closed_set((0, 3), 3)]),
    (closed.spaces_above, [some_counts(CORNERS), closed_set((0, 3), 3)]),
]
CALLS += [(call, [some_counts(CORNERS)]) for call in COUNTS_ONLY]
CALLS += [(call, [some_counts(CORNERS), integer(2, 0, 3)]) for call in COUNTS_AND_SPACE]
CALLS += [(call, [web(FIVE_RING)]) for call in WEB_ONLY]
CALLS += [(call, [integer(10, 0, 200), integer(3, 0, 200), integer(0, 0, 200), integer(1, 0, 200)]) for call in TUPLE_ONLY]

# What judges a value: the places ahead of it, values that are right, and values that are wrong though they look right.
CLOSE = [
    (1, 2), (0, 1, 2, 3), (0, True, 2, 3), ((1, 6, 3), (1, 1, -2), (True, -2, 1)), (0,), (), 5, 0, -7, SIXTY, 2 ** 70, ((0, 1), (1, 0)), ((1,), (1,)),
    ("sums", 1, 1), ("sums", True, 1), ("sums", 1), ("zero", 0, 3), ("sum", 1, 1), ("bracket", 1, 1, 1, 1), ("bracket", 1, 1, 1, 1, 1), (1, "sums", 1),
    ("weight", 0, 0, None), (("sums",), 1, 1), (0, 1, 1, 3, 2, 1), (0, True, 1, 3, 2, 1), (0, 1, 1, 3, 2), (0, 1, 1, 3, 2, 1, 0), (0, 1, 1, 9, 2, 1),
    ("sums", 1, LONG), ("", 1, 1), (0, -1, 1, 3, 2, 1), (0, 1, 1, 3, 2, -1), (0, 1, 1, 3, 2, 3), [0, 1, 1, 3, 2, 1], TEN, ("sums", (1,), 1),
]
JUDGES = [
    (schemes.is_kinds_table, [], [PRISM_TABLE, ((0,),)]),
    (schemes.is_scheme_table, [], [PRISM_TABLE, ((0,),)]),
    (schemes.is_fault, [kinds_table(((0, 1, 2), (1, 0, 1), (2, 1, 0)))], []),
    (counts.is_counts, [], [TEN, (((1,),),)]),
    (counts.is_counts_fault, [counts_table((((1, 0), (0, 3)), ((0, 1), (1, 1))))], [("sums", 1, 1)]),
    (counts.is_counts_order, [some_counts(TEN), some_counts(TEN)], [(0, 1, 2)]),
    (spaces.is_first_table, [some_counts(FEW)], [((1, 6, 3), (1, 1, -2), (1, -2, 1))]),
    (ladders.is_kind_ladder, [some_counts(CORNERS)], [(0, 1, 2, 3)]),
    (ladders.is_space_ladder, [some_counts(CORNERS)], [(0, 1, 2, 3)]),
    (ladders.is_array, [], [((3, 2), (1, 1)), ((), ())]),
    (tuples.is_switching, [web(FIVE_RING), web(FIVE_RING)], [(), (0, 1, 2, 3, 4)]),
    (closed.is_closed, [some_counts(CORNERS)], [(0,), (0, 3)]),
]
