"""Krein numbers, dual counts, and the points of a scheme on balls."""

from math import comb

from thirdcounts.base.numbers import fraction, is_between, raised
from thirdcounts.base.wholes import whole_row
from thirdcounts.eigen.spaces import need_rows, told_multiplicities
from thirdcounts.errors import InvalidNumber, Refused, TooMany
from thirdcounts.pairs.counts import need_counts, need_kind, order_between

MAX_BALANCE = 12
MAX_DUAL = 7


def _numbers_of(rows):
    """All Krein numbers that a first table tells, at [t][r][s].

    q(r, s; t) is m(r) m(s) / n times the sum of P(r, i) P(s, i) P(t, i) / v(i) ** 2 over all i.
    """
    points = sum(rows[0])
    many = told_multiplicities(rows)
    parts, common = whole_row([(1, valency * valency) for valency in rows[0]])
    table = []
    for last in rows:
        square = []
        for first, (top, bottom) in zip(rows, many):
            weighed = [one * other * part for one, other, part in zip(last, first, parts)]
            under = bottom * points * common
            entries = []
            for second, (over, low) in zip(rows, many):
                total = sum([told * entry for told, entry in zip(weighed, second)])
                entries.append(fraction(total * top * over, under * low))
            square.append(tuple(entries))
        table.append(tuple(square))
    return tuple(table)


def told_krein_table(counts):
    """All Krein numbers of valid counts; `Refused` if an eigenvalue is no integer."""
    return _numbers_of(need_rows(counts))


def krein_number(counts, one, other, space):
    """The Krein number q(one, other; space), a fraction."""
    need_counts(counts)
    need_kind(counts, one)
    need_kind(counts, other)
    need_kind(counts, space)
    return told_krein_table(counts)[space][one][other]


def krein_table(counts):
    """The Krein numbers q(r, s; t), at the index s of the tuple r of the tuple t."""
    need_counts(counts)
    return told_krein_table(counts)


def krein_fault(counts):
    """The first triple (r, s, t) with q(r, s; t) below 0, `None` if there is none."""
    need_counts(counts)
    table = told_krein_table(counts)
    spaces = range(len(counts))
    for one in spaces:
        for other in spaces:
            for space in spaces:
                if table[space][one][other][0] < 0:
                    return one, other, space
    return None


def absolute_fault(counts):
    """The first pair (r, s), r at most s, whose products need too many dimensions, `None` if there is none."""
    need_counts(counts)
    rows = need_rows(counts)
    table = _numbers_of(rows)
    wholes, common = whole_row(told_multiplicities(rows))
    for one, first in enumerate(wholes):
        for other in range(one, len(wholes)):
            reached = sum([whole for whole, square in zip(wholes, table) if square[one][other][0] != 0])
            # Both sides are multiplied by 2, and twice by the common bottom.
            most = first * (first + common) if one == other else 2 * first * wholes[other]
            if 2 * reached * common > most:
                return one, other
    return None


def _tops_if_whole(table):
    """The table of the integers that all fractions of a table are, `None` if one of them is none."""
    if not all([bottom == 1 for square in table for row in square for _, bottom in row]):
        return None
    return tuple([tuple([tuple([top for top, _ in row]) for row in square]) for square in table])


def are_dual(one, other):
    """Whether the second counts are dual to the first ones."""
    need_counts(one)
    need_counts(other)
    if max(len(one), len(other)) - 1 > MAX_DUAL:
        raise TooMany(MAX_DUAL)
    table = _tops_if_whole(told_krein_table(one))
    need_rows(other)
    if table is None or len(table) != len(other):
        return False
    return order_between(table, other, (0,)) is not None


def _products_of(rows, space):
    return tuple([fraction(entry, valency) for entry, valency in zip(rows[space], rows[0])])


def ball_products(counts, space):
    """The inner products, on the ball of an eigenspace, of two points, by their kinds."""
    need_counts(counts)
    need_kind(counts, space)
    return _products_of(need_rows(counts), space)


def unlike_points(counts, space):
    """How many unlike points the ball of an eigenspace has, a fraction."""
    need_counts(counts)
    need_kind(counts, space)
    rows = need_rows(counts)
    together = [valency for entry, valency in zip(rows[space], rows[0]) if entry == valency]
    return fraction(sum(rows[0]), sum(together))


def ball_bound(counts, space):
    """How many points with so many unlike inner products a ball of so many dimensions has at most."""
    need_counts(counts)
    need_kind(counts, space)
    rows = need_rows(counts)
    top, bottom = told_multiplicities(rows)[space]
    if bottom != 1:
        raise Refused(("multiplicity",))
    unlike = len({product for product in _products_of(rows, space) if product != (1, 1)})
    if unlike == 0:
        return 1
    return comb(top + unlike - 1, unlike) + comb(top + unlike - 2, unlike - 1)


def _mean(rows, space, many):
    wholes, common = whole_row(_products_of(rows, space))
    total = sum([valency * raised(whole, many) for valency, whole in zip(rows[0], wholes)])
    return fraction(total, sum(rows[0]) * raised(common, many))


def ball_mean(counts, space, many):
    """The mean of a power of the inner product of two points, over all points."""
    need_counts(counts)
    need_kind(counts, space)
    if not is_between(many, 0, MAX_BALANCE):
        raise InvalidNumber(many)
    return _mean(need_rows(counts), space, many)


def _whole_ball_mean(dimensions, many):
    """The mean of a power of the inner product with one point over the whole ball."""
    if many % 2 == 1:
        return 0, 1
    top, bottom = dimensions
    over, under = 1, 1
    for step in range(0, many, 2):
        over = over * (step + 1) * bottom
        under = under * (top + step * bottom)
    return fraction(over, under)


def balance(counts, space):
    """The greatest t from 0 to 12 for which the means of the powers 1 to t are those of the whole ball."""
    need_counts(counts)
    need_kind(counts, space)
    rows = need_rows(counts)
    dimensions = told_multiplicities(rows)[space]
    for many in range(1, MAX_BALANCE + 1):
        if _mean(rows, space, many) != _whole_ball_mean(dimensions, many):
            return many - 1
    return MAX_BALANCE
