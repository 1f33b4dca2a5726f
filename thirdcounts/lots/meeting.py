"""Lots that meet, greatest lots that keep to some kinds, and partings of points with equal counts."""

from thirdcounts.base.numbers import fraction
from thirdcounts.base.wholes import row_sum
from thirdcounts.errors import InvalidLot, InvalidOperation, InvalidParting, TooMany
from thirdcounts.lots.counting import is_lot, need_lot, outer_row, told_inner_counts
from thirdcounts.pairs.schemes import MAX_POINTS, is_parting_of, need_kinds_set, need_scheme

MOST_GREATEST = 2000


def _need_two(scheme, one, other):
    need_scheme(scheme)
    need_lot(scheme, one)
    need_lot(scheme, other)


def _told_pair_sum(scheme, one, other):
    """The pair sum of two valid lots."""
    parts = []
    left, right = told_inner_counts(scheme, one), told_inner_counts(scheme, other)
    for (top, bottom), (over, under), valency in zip(left, right, scheme.valencies):
        parts.append(fraction(top * over, bottom * under * valency))
    return row_sum(parts)


def pair_sum(scheme, one, other):
    """The sum of a(i) * c(i) / v(i) over all kinds, for the inner counts of two lots."""
    _need_two(scheme, one, other)
    return _told_pair_sum(scheme, one, other)


def are_across(scheme, one, other):
    """Whether at each eigenspace other than 0 one of both lots has the dual count 0."""
    _need_two(scheme, one, other)
    return _told_pair_sum(scheme, one, other) == fraction(len(one) * len(other), scheme.size)


def common_number(one, other):
    """How many points two lots have in common."""
    for lot in (one, other):
        if not is_lot(lot, MAX_POINTS):
            raise InvalidLot("this is no lot of any scheme")
    return len([point for point in one if point in other])


def _need_set(scheme, kinds):
    need_scheme(scheme)
    need_kinds_set(kinds, scheme.most)


def keeps(scheme, kinds, lot):
    """Whether a valid lot keeps to the kinds."""
    return all([scheme.table[one][other] in kinds for one in lot for other in lot if one < other])


def does_keep(scheme, kinds, lot):
    """Whether the lot keeps to the kinds set."""
    _need_set(scheme, kinds)
    need_lot(scheme, lot)
    return keeps(scheme, kinds, lot)


def _near_points(scheme, kinds):
    """For each point the points that have a kind of the set to it, each as a bit of an integer."""
    return [sum([1 << other for other, kind in enumerate(row) if kind in kinds]) for row in scheme.table]


def _lowest(points):
    return (points & -points).bit_length() - 1


def _most_together(near, points):
    """A number that no set of the points of which each two are near exceeds.

    The points are put into parts of points that are not near, and a set has at most one of each part.
    """
    many = 0
    left = points
    while left > 0:
        part = left
        while part > 0:
            point = _lowest(part)
            left = left - (1 << point)
            part = part - (1 << point)
            part = part - (part & near[point])
        many = many + 1
    return many


def _sets_of(near, points, size, most):
    """The ascending list of the first `most` tuples of so many of the points, each two of them near."""
    if size == 0:
        return [()]
    found = []
    left = points
    while len(found) < most and _most_together(near, left) >= size:
        point = _lowest(left)
        left = left - (1 << point)
        longer = _sets_of(near, left & near[point], size - 1, most - len(found))
        found = found + [(point, *further) for further in longer]
    return found


def _lots_of_size(scheme, kinds, size, most):
    return _sets_of(_near_points(scheme, kinds), (1 << scheme.size) - 1, size, most)


def _first_greatest(scheme, kinds):
    """The first one of the greatest lots that keep to the kinds."""
    found = (0,)
    while True:
        larger = _lots_of_size(scheme, kinds, len(found) + 1, 1)
        if not larger:
            return found
        found = larger[0]


def greatest_size(scheme, kinds):
    """The greatest number of points of a lot that keeps to the kinds set."""
    _need_set(scheme, kinds)
    return len(_first_greatest(scheme, kinds))


def greatest_lot(scheme, kinds):
    """A lot with the greatest number of points that keeps to the kinds set."""
    _need_set(scheme, kinds)
    return _first_greatest(scheme, kinds)


def is_greatest_lot(scheme, kinds, value):
    """Whether the value is a lot with the greatest number of points that keeps to the kinds set."""
    _need_set(scheme, kinds)
    if not is_lot(value, scheme.size) or not keeps(scheme, kinds, value):
        return False
    return not _lots_of_size(scheme, kinds, len(value) + 1, 1)


def each_greatest(scheme, kinds):
    """All lots with the greatest number of points that keep to the kinds set, ascending."""
    _need_set(scheme, kinds)
    size = len(_first_greatest(scheme, kinds))
    lots = _lots_of_size(scheme, kinds, size, MOST_GREATEST + 1)
    if len(lots) > MOST_GREATEST:
        raise TooMany(MOST_GREATEST)
    yield from lots


def _rest_of_kinds(scheme, kinds):
    return tuple([kind for kind in range(1, scheme.most + 1) if kind not in kinds])


def tight_lots(scheme, kinds):
    """A lot that keeps to the kinds set and one that keeps to the rest, with n as the product of their sizes.

    The product is never above n, so that only greatest lots have to be looked at.
    """
    _need_set(scheme, kinds)
    one = _first_greatest(scheme, kinds)
    other = _first_greatest(scheme, _rest_of_kinds(scheme, kinds))
    if len(one) * len(other) != scheme.size:
        return None
    return one, other


def is_tight_lots(scheme, kinds, value):
    """Whether the value is such a pair of lots."""
    _need_set(scheme, kinds)
    if not isinstance(value, tuple) or len(value) != 2 or not all([is_lot(lot, scheme.size) for lot in value]):
        return False
    one, other = value
    if len(one) * len(other) != scheme.size or not keeps(scheme, kinds, one):
        return False
    return keeps(scheme, _rest_of_kinds(scheme, kinds), other)


def _is_points_parting(scheme, value):
    return is_parting_of(value, 0, scheme.size - 1)


def _need_points_parting(scheme, value):
    if not _is_points_parting(scheme, value):
        raise InvalidParting("this is no parting of the points")


def is_points_parting(scheme, value):
    """Whether the value is a parting of the points."""
    need_scheme(scheme)
    return _is_points_parting(scheme, value)


def _numbers_of(scheme, parting):
    """For each part, and each further one, how many points at each kind a point has there, `None` if points differ."""
    table = []
    for lot in parting:
        rows = []
        for other in parting:
            wanted = outer_row(scheme, other, lot[0])
            if not all([outer_row(scheme, other, point) == wanted for point in lot]):
                return None
            rows.append(wanted)
        table.append(rows)
    return table


def is_equal_parting(scheme, value):
    """Whether the value is an equal parting of the points."""
    need_scheme(scheme)
    return _is_points_parting(scheme, value) and _numbers_of(scheme, value) is not None


def parting_numbers(scheme, parting):
    """How many points of each part a point of each part has at each kind, for an equal parting."""
    need_scheme(scheme)
    _need_points_parting(scheme, parting)
    table = _numbers_of(scheme, parting)
    if table is None:
        raise InvalidOperation("the parting is not equal")
    kinds = range(scheme.most + 1)
    return tuple([tuple([tuple([numbers[kind] for numbers in rows]) for rows in table]) for kind in kinds])


def means_table(scheme, parting):
    """The table with 1 divided by the size of a part at two points of it, and 0 elsewhere."""
    need_scheme(scheme)
    _need_points_parting(scheme, parting)
    points = range(scheme.size)
    lots = [[lot for lot in parting if point in lot][0] for point in points]
    return tuple([tuple([(1, len(lot)) if point in lot else (0, 1) for point in points]) for lot in lots])


def _rings_of(scheme, lot):
    found = {}
    for point in range(scheme.size):
        found.setdefault(tuple(outer_row(scheme, lot, point)), []).append(point)
    return tuple([tuple(ring) for ring in found.values()])


def rings_of(scheme, lot):
    """The parting of all points by their outer counts."""
    need_scheme(scheme)
    need_lot(scheme, lot)
    return _rings_of(scheme, lot)


def is_even_lot(scheme, lot):
    """Whether the rings of the lot are an equal parting."""
    need_scheme(scheme)
    need_lot(scheme, lot)
    return _numbers_of(scheme, _rings_of(scheme, lot)) is not None
