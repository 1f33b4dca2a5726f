"""Lots of points: how often their pairs have each kind, and what this tells of eigenspaces and distances."""

from thirdcounts.base.numbers import fraction
from thirdcounts.base.wholes import whole_row
from thirdcounts.eigen.spaces import need_rows, told_multiplicities
from thirdcounts.errors import InvalidLot, InvalidOperation
from thirdcounts.ladder.ladders import is_kind_ladder, is_space_ladder
from thirdcounts.pairs.counts import is_sum_of_kinds, need_counts, need_order
from thirdcounts.pairs.schemes import Scheme, is_ascending, need_point, need_scheme, thirds_and_fault


def is_lot(value, size):
    """Whether the value is a lot of so many points."""
    return is_ascending(value, 0, size - 1) and len(value) > 0


def need_lot(scheme, value):
    """Raise `InvalidLot` unless the value is a lot of the scheme."""
    if not is_lot(value, scheme.size):
        raise InvalidLot("this is no ascending tuple of at least one point")


def outer_row(scheme, lot, point):
    """The list of the numbers of the points of the lot that are of each kind to a point."""
    row = scheme.table[point]
    kinds = [row[other] for other in lot]
    return [kinds.count(kind) for kind in range(scheme.most + 1)]


def told_inner_counts(scheme, lot):
    """The inner counts of a valid lot."""
    rows = [outer_row(scheme, lot, point) for point in lot]
    return tuple([fraction(sum(column), len(lot)) for column in zip(*rows)])


def duals_of(rows, row):
    """The sums of all row[i] * Q(i, r), fractions, by the first table."""
    shares = [fraction(top, bottom * valency) for (top, bottom), valency in zip(row, rows[0])]
    wholes, common = whole_row(shares)
    found = []
    for (top, bottom), values in zip(told_multiplicities(rows), rows):
        total = sum([whole * value for whole, value in zip(wholes, values)])
        found.append(fraction(top * total, bottom * common))
    return tuple(found)


def told_dual_counts(scheme, lot):
    """The dual counts of a valid lot; `Refused` if an eigenvalue is no integer."""
    return duals_of(need_rows(scheme.all_numbers()), told_inner_counts(scheme, lot))


def inner_counts(scheme, lot):
    """The inner counts of a lot."""
    need_scheme(scheme)
    need_lot(scheme, lot)
    return told_inner_counts(scheme, lot)


def dual_counts(scheme, lot):
    """The dual counts of a lot."""
    need_scheme(scheme)
    need_lot(scheme, lot)
    return told_dual_counts(scheme, lot)


def outer_counts(scheme, lot, point):
    """How many points of the lot are of each kind to a point."""
    need_scheme(scheme)
    need_lot(scheme, lot)
    need_point(point, scheme.size)
    return tuple(outer_row(scheme, lot, point))


def _need_row(counts, value):
    if not is_sum_of_kinds(counts, value):
        raise InvalidOperation("this is no row of a number for each kind")


def _as_fractions(row):
    wholes, common = whole_row(row)
    return [(whole, common) for whole in wholes]


def dual_row(counts, row):
    """The row that has the sum of all row[i] * Q(i, r) at each eigenspace."""
    need_counts(counts)
    _need_row(counts, row)
    return duals_of(need_rows(counts), _as_fractions(row))


def inner_row(counts, row):
    """The row that has the sum of all row[r] * P(r, i), divided by n, at each kind."""
    need_counts(counts)
    _need_row(counts, row)
    rows = need_rows(counts)
    wholes, common = whole_row(row)
    points = sum(rows[0])
    sums = [sum([whole * value for whole, value in zip(wholes, column)]) for column in zip(*rows)]
    return tuple([fraction(total, common * points) for total in sums])


def _other_than_0(row):
    """How many fractions of a row, but for the first one, are not 0."""
    return len([top for top, _ in row[1:] if top != 0])


def told_degree(scheme, lot):
    """The degree of a valid lot."""
    return _other_than_0(told_inner_counts(scheme, lot))


def degree(scheme, lot):
    """The number of the kinds from 1 on that pairs of points of the lot have."""
    need_scheme(scheme)
    need_lot(scheme, lot)
    return told_degree(scheme, lot)


def dual_degree(scheme, lot):
    """The number of the eigenspaces from 1 on at which the dual count is not 0."""
    need_scheme(scheme)
    need_lot(scheme, lot)
    return _other_than_0(told_dual_counts(scheme, lot))


def rest_of(scheme, lot):
    """The lot of all other points."""
    need_scheme(scheme)
    need_lot(scheme, lot)
    if len(lot) == scheme.size:
        raise InvalidOperation("the lot has all points")
    return tuple([point for point in range(scheme.size) if point not in lot])


def _need_ordered(scheme, order, lot):
    need_scheme(scheme)
    need_order(scheme.all_numbers(), order)
    need_lot(scheme, lot)


def _told_strength(scheme, order, lot):
    """The strength of a valid lot; the errors behind "then" are raised."""
    duals = told_dual_counts(scheme, lot)
    if not is_space_ladder(scheme.all_numbers(), order):
        raise InvalidOperation("the order is no ladder of spaces")
    found = 0
    for space in order[1:]:
        if duals[space] != (0, 1):
            return found
        found = found + 1
    return found


def strength(scheme, order, lot):
    """The strength of a lot, by a ladder of spaces."""
    _need_ordered(scheme, order, lot)
    return _told_strength(scheme, order, lot)


def size_bounds(scheme, order, lot):
    """The pair of the integers between which strength and degree put the size of a lot."""
    _need_ordered(scheme, order, lot)
    low = _told_strength(scheme, order, lot) // 2
    # The multiplicities of a scheme are integers.
    many = [top for top, _ in told_multiplicities(need_rows(scheme.all_numbers()))]
    summed = [many[space] for space in order]
    return sum(summed[:low + 1]), sum(summed[:told_degree(scheme, lot) + 1])


def _need_distances(scheme, order, lot):
    _need_ordered(scheme, order, lot)
    if not is_kind_ladder(scheme.all_numbers(), order):
        raise InvalidOperation("the order is no ladder of kinds")


def farthest(scheme, order, lot):
    """The greatest distance of a point from the lot, by a ladder of kinds."""
    _need_distances(scheme, order, lot)
    return max([min([order.index(row[point]) for point in lot]) for row in scheme.table])


def _told_least_distance(scheme, order, lot):
    """The least distance of two unlike points, `None` if there are none."""
    kinds = [scheme.table[one][other] for one in lot for other in lot if one < other]
    if not kinds:
        return None
    return min([order.index(kind) for kind in kinds])


def least_distance(scheme, order, lot):
    """The least distance of two unlike points of the lot, `None` for a single point."""
    _need_distances(scheme, order, lot)
    return _told_least_distance(scheme, order, lot)


def is_perfect(scheme, order, lot):
    """Whether the lot is perfect, by a ladder of kinds."""
    _need_distances(scheme, order, lot)
    least = _told_least_distance(scheme, order, lot)
    radius = scheme.most if least is None else (least - 1) // 2
    reached = sum([scheme.valencies[kind] for kind in order[:radius + 1]])
    return len(lot) * reached == scheme.size


def lot_scheme(scheme, lot):
    """The scheme of the kinds of the pairs of points of the lot, `None` if they are none."""
    need_scheme(scheme)
    need_lot(scheme, lot)
    table = scheme.table
    kinds = sorted({table[one][other] for one in lot for other in lot})
    rows = tuple([tuple([kinds.index(table[one][other]) for other in lot]) for one in lot])
    if thirds_and_fault(rows)[1] is not None:
        return None
    return Scheme(rows)
