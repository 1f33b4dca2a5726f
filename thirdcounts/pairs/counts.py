"""Counts: the numbers p(i, j; k) alone, and the sums of kinds that are multiplied as they tell."""

from thirdcounts.base.numbers import fraction, is_between, is_number, raised
from thirdcounts.base.polys import is_poly
from thirdcounts.base.tables import table_solved
from thirdcounts.base.wholes import eliminated, fractions_of, whole_row
from thirdcounts.errors import InvalidCounts, InvalidKinds, InvalidNumber, InvalidOrder, InvalidPoly, TooMany
from thirdcounts.pairs.rules import RULES, breaks, fault_of
from thirdcounts.pairs.schemes import is_order, need_scheme

MAX_MOST = 10
MAX_COUNT = 10 ** 12
MOST_STEPS = 200
MOST_POWER = 60
MAX_ORDERED = 7

_MOST_LONE = 10 ** 9


def _is_counts_row(value, size):
    if not isinstance(value, tuple) or len(value) != size:
        return False
    return all([is_between(entry, 0, MAX_COUNT) for entry in value])


def _is_counts_square(value, size):
    if not isinstance(value, tuple) or len(value) != size:
        return False
    return all([_is_counts_row(row, size) for row in value])


def is_counts_table(value):
    """Whether the value is a counts table, whether or not it keeps the rules."""
    if not isinstance(value, tuple) or not 1 <= len(value) <= MAX_MOST + 1:
        return False
    return all([_is_counts_square(square, len(value)) for square in value])


def is_counts(value):
    """Whether the value is counts."""
    return is_counts_table(value) and fault_of(value) is None


def _need_counts_table(value):
    if not is_counts_table(value):
        raise InvalidCounts("this is no counts table")


def counts_fault(table):
    """The first rule that a counts table breaks, with the least indices, `None` for counts."""
    _need_counts_table(table)
    return fault_of(table)


def is_counts_fault(table, value):
    """Whether the value is a tuple of a rule and of indices at which the counts table breaks it."""
    _need_counts_table(table)
    if not isinstance(value, tuple) or not value or not isinstance(value[0], str):
        return False
    return value[0] in RULES and breaks(table, value[0], value[1:])


def need_counts(value):
    """Raise `InvalidCounts` unless the value is counts."""
    if not is_counts(value):
        raise InvalidCounts("these are no counts")


def need_kind(counts, value):
    """Raise `InvalidNumber` unless the value is a kind, or an eigenspace, of the counts."""
    if not is_between(value, 0, len(counts) - 1):
        raise InvalidNumber(value)


def need_order(counts, value):
    """Raise `InvalidOrder` unless the value is an order of the kinds, or of the eigenspaces, of the counts."""
    if not is_order(value, len(counts) - 1):
        raise InvalidOrder("this is no order")


def is_sum_of_kinds(counts, value):
    """Whether the value is a tuple of a number for each kind."""
    if not isinstance(value, tuple) or len(value) != len(counts):
        return False
    return all([is_number(entry) for entry in value])


def _need_sum(counts, value):
    if not is_sum_of_kinds(counts, value):
        raise InvalidKinds("this is no sum of the kinds")


def counts_of(scheme):
    """The counts of a scheme."""
    need_scheme(scheme)
    return scheme.all_numbers()


def lone_counts(size):
    """The counts of so many points with one kind beside 0."""
    if not is_between(size, 2, _MOST_LONE):
        raise InvalidNumber(size)
    return ((1, 0), (0, size - 1)), ((0, 1), (1, size - 2))


def told_valencies(counts):
    """The valencies of valid counts."""
    return tuple([counts[0][kind][kind] for kind in range(len(counts))])


def valencies_of(counts):
    """The tuple of all valencies."""
    need_counts(counts)
    return told_valencies(counts)


def points_of(counts):
    """The number of the points."""
    need_counts(counts)
    return sum(told_valencies(counts))


def whole_times(counts, one, other):
    """The product of two sums of kinds of integers."""
    product = []
    for square in counts:
        rows = [sum([number * factor for number, factor in zip(row, other)]) for row in square]
        product.append(sum([total * factor for total, factor in zip(rows, one)]))
    return product


def _times(counts, one, other):
    tops, bottom = whole_row(one)
    overs, under = whole_row(other)
    return fractions_of(whole_times(counts, tops, overs), bottom * under)


def _whole_zero(counts):
    """The kind 0 as a sum of kinds of integers."""
    return [1] + [0] * (len(counts) - 1)


def kinds_product(counts, one, other):
    """The product of two sums of kinds."""
    need_counts(counts)
    _need_sum(counts, one)
    _need_sum(counts, other)
    return _times(counts, one, other)


def kinds_pairing(counts, one, other):
    """The sum of v(k) times both numbers over all kinds k."""
    need_counts(counts)
    _need_sum(counts, one)
    _need_sum(counts, other)
    tops, bottom = whole_row(one)
    overs, under = whole_row(other)
    parts = [top * over * valency for top, over, valency in zip(tops, overs, told_valencies(counts))]
    return fraction(sum(parts), bottom * under)


def kinds_power(counts, one, many):
    """The product of so many times a sum of kinds."""
    need_counts(counts)
    _need_sum(counts, one)
    if not is_between(many, 0, MOST_POWER):
        raise InvalidNumber(many)
    wholes, bottom = whole_row(one)
    power = _whole_zero(counts)
    for _ in range(many):
        power = whole_times(counts, power, wholes)
    return fractions_of(power, raised(bottom, many))


def walks_by_kinds(counts, kind, many):
    """The number of the walks of so many steps along one kind, between two points of each kind."""
    need_counts(counts)
    need_kind(counts, kind)
    if not is_between(many, 0, MOST_STEPS):
        raise InvalidNumber(many)
    walks = _whole_zero(counts)
    for _ in range(many):
        walks = [sum([number * told for number, told in zip(square[kind], walks)]) for square in counts]
    return tuple(walks)


def kinds_value(counts, poly, one):
    """The value of a polynomial at a sum of kinds."""
    need_counts(counts)
    if not is_poly(poly):
        raise InvalidPoly("this is no polynomial of a degree of at most 40")
    _need_sum(counts, one)
    tops, bottom = whole_row(poly)
    wholes, under = whole_row(one)
    value = [0] * len(counts)
    weight = 1
    for top in tops[::-1]:
        product = whole_times(counts, value, wholes)
        value = [product[0] + top * weight, *product[1:]]
        weight = weight * under
    return fractions_of(value, bottom * raised(under, max(0, len(poly) - 1)))


def least_wholes(counts, wholes):
    """The least polynomial of a sum of kinds of integers, fractions, and its powers from 0 to d + 1."""
    powers = [_whole_zero(counts)]
    for _ in counts:
        powers.append(whole_times(counts, powers[-1], wholes))
    rows, columns, lead, _ = eliminated([list(row) for row in zip(*powers)])
    # Once a power is a sum of multiples of the lower ones, so are all further ones.
    degree = len(columns)
    return fractions_of([-row[degree] for row in rows] + [lead], lead), powers


def least_poly(counts, one):
    """The polynomial of the least degree with the last entry 1 whose value at a sum of kinds is 0."""
    need_counts(counts)
    _need_sum(counts, one)
    wholes, bottom = whole_row(one)
    least = least_wholes(counts, wholes)[0]
    degree = len(least) - 1
    # Each zero is divided by the common bottom.
    return tuple([fraction(top, under * raised(bottom, degree - place)) for place, (top, under) in enumerate(least)])


def kinds_undone(counts, one):
    """The sum of kinds whose product with a sum of kinds is the kind 0, `None` if there is none."""
    need_counts(counts)
    _need_sum(counts, one)
    size = len(counts)
    units = [tuple([1 if kind == unit else 0 for kind in range(size)]) for unit in range(size)]
    columns = [_times(counts, one, unit) for unit in units]
    return table_solved(tuple(zip(*columns)), units[0])


def _renumbered(counts, order):
    """The table with p(i, j; k) at the index order[j] of the tuple order[i] of the tuple order[k]."""
    kinds = range(len(counts))
    old = [order.index(kind) for kind in kinds]
    return tuple([tuple([tuple([counts[k][i][j] for j in old]) for i in old]) for k in old])


def counts_renumbered(counts, order):
    """The counts with order[k] as the new name of each kind k."""
    need_counts(counts)
    need_order(counts, order)
    return _renumbered(counts, order)


def _are_equal_so_far(one, other, order):
    """Whether the last kind of an unfinished order has the same numbers, with all kinds ahead, in both tables."""
    last = len(order) - 1
    for low in range(last + 1):
        for high in range(last + 1):
            # Both tables keep "exchange", so the last kind need not be the first index, too.
            for first, second, kind in ((low, high, last), (low, last, high)):
                if one[kind][first][second] != other[order[kind]][order[first]][order[second]]:
                    return False
    return True


def order_between(one, other, order):
    """An order that begins as told, and by which the first table, renumbered, is the second one, or `None`.

    Both are tables of as many kinds that keep "exchange"; what they tell need not be integers.
    """
    if not _are_equal_so_far(one, other, order):
        return None
    if len(order) == len(one):
        return order
    for name in range(1, len(one)):
        if name not in order:
            found = order_between(one, other, (*order, name))
            if found is not None:
                return found
    return None


def counts_order(one, other):
    """An order by which the first counts, renumbered, are the second ones, `None` if there is none."""
    need_counts(one)
    need_counts(other)
    if max(len(one), len(other)) - 1 > MAX_ORDERED:
        raise TooMany(MAX_ORDERED)
    if len(one) != len(other):
        return None
    return order_between(one, other, (0,))


def is_counts_order(one, other, value):
    """Whether the value is an order by which the first counts, renumbered, are the second ones."""
    need_counts(one)
    need_counts(other)
    return is_order(value, len(one) - 1) and _renumbered(one, value) == other
