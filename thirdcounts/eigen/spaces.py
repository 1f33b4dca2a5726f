"""Eigenspaces: the first table P, the second table Q, and what they tell of sums of kinds."""

from thirdcounts.base.numbers import fraction, is_integer, is_number, raised
from thirdcounts.base.polys import integer_zeros
from thirdcounts.base.tables import row_times, table_turned
from thirdcounts.base.wholes import whole_row
from thirdcounts.errors import InvalidOperation, InvalidTable, Refused
from thirdcounts.pairs.counts import MAX_COUNT, is_counts, least_wholes, need_counts, need_kind, told_valencies
from thirdcounts.pairs.schemes import need_scheme

MAX_ROWS = 11


def _telling_powers(counts):
    """The least polynomial, and the powers, of a sum of kinds with unlike values at all eigenspaces.

    The kind k has the weight w ** (k - 1). Two unlike rows of the first table have equal values for
    fewer than d of the numbers w, so the search ends.
    """
    weight = 0
    while True:
        wholes = [0] + [raised(weight, kind - 1) for kind in range(1, len(counts))]
        least, powers = least_wholes(counts, wholes)
        if len(least) == len(counts) + 1:
            return least, powers
        weight = weight + 1


def _row_at(counts, tops, powers, zero):
    """The row of the eigenspace at which the sum of kinds with these powers has the value `zero`.

    The least polynomial, divided by x less this zero, has at the sum of kinds a multiple of the sum
    of all Q(i, r) / n times the kind i; and Q(i, r) is to Q(0, r) as P(r, i) is to v(i).
    """
    factor = 0
    total = [0] * len(counts)
    for place in reversed(range(len(counts))):
        factor = factor * zero + tops[place + 1]
        total = [entry + factor * told for entry, told in zip(total, powers[place])]
    return tuple([valency * entry // total[0] for valency, entry in zip(told_valencies(counts), total)])


def rows_or_none(counts):
    """The first table of valid counts, `None` if an eigenvalue is no integer."""
    least, powers = _telling_powers(counts)
    zeros = integer_zeros(least)
    if len(zeros) < len(counts):
        return None
    # The sum of kinds has integers, so its least polynomial has integers, too.
    tops = [top for top, _ in least]
    return tuple(sorted([_row_at(counts, tops, powers, zero) for zero, _ in zeros], reverse=True))


def need_rows(counts):
    """The first table of valid counts; `Refused` if an eigenvalue is no integer."""
    rows = rows_or_none(counts)
    if rows is None:
        raise Refused(("eigenvalues",))
    return rows


def told_multiplicities(rows):
    """The tuple of all m(r) of a first table."""
    parts, common = whole_row([(1, valency) for valency in rows[0]])
    points = sum(rows[0])
    sums = [sum([entry * entry * part for entry, part in zip(row, parts)]) for row in rows]
    return tuple([fraction(points * common, total) for total in sums])


def _second_of(rows):
    """The second table that belongs to a first table."""
    many = told_multiplicities(rows)
    table = []
    for kind, valency in enumerate(rows[0]):
        entries = [fraction(top * row[kind], bottom * valency) for (top, bottom), row in zip(many, rows)]
        table.append(tuple(entries))
    return tuple(table)


def has_integer_values(counts):
    """Whether all eigenvalues are integers."""
    need_counts(counts)
    return rows_or_none(counts) is not None


def first_table(counts):
    """The first table P, integers, the rows descending."""
    need_counts(counts)
    return need_rows(counts)


def second_table(counts):
    """The second table Q, fractions."""
    need_counts(counts)
    return _second_of(need_rows(counts))


def multiplicities(counts):
    """The tuple of all m(r), fractions."""
    need_counts(counts)
    return told_multiplicities(need_rows(counts))


def _is_integers_table(value):
    """Whether the value is a square table of integers, of 1 to 11 rows."""
    if not isinstance(value, tuple) or not 1 <= len(value) <= MAX_ROWS:
        return False
    for row in value:
        if not isinstance(row, tuple) or len(row) != len(value):
            return False
        if not all([is_integer(entry) for entry in row]):
            return False
    return True


def is_first_table(counts, value):
    """Whether the value is the first table."""
    need_counts(counts)
    rows = need_rows(counts)
    return _is_integers_table(value) and value == rows


def _can_be_first(value):
    """Whether the value has the form of a first table."""
    if not _is_integers_table(value):
        return False
    for index, row in enumerate(value):
        if row[0] != 1 or index > 0 and value[index - 1] <= row:
            return False
    valencies = value[0]
    if min(valencies) < 1:
        return False
    return all([abs(entry) <= valency for row in value for entry, valency in zip(row, valencies)])


def _numbers_by(rows):
    """The tuple, over k, i and j, of the numbers p(i, j; k) that a first table tells, fractions."""
    valencies = rows[0]
    points = sum(valencies)
    weights, common = whole_row(told_multiplicities(rows))
    columns = list(zip(*rows))
    table = []
    for last, valency in zip(columns, valencies):
        square = []
        for first in columns:
            weighed = [weight * one * other for weight, one, other in zip(weights, last, first)]
            totals = [sum([told * entry for told, entry in zip(weighed, second)]) for second in columns]
            square.append(tuple([fraction(total, common * points * valency) for total in totals]))
        table.append(tuple(square))
    return tuple(table)


def counts_by_table(first):
    """The counts with this first table."""
    if not _can_be_first(first):
        raise InvalidTable("this has not the form of a first table")
    if max(first[0]) > MAX_COUNT:
        raise InvalidOperation("the valencies are greater than those of counts")
    numbers = _numbers_by(first)
    counts = tuple([tuple([tuple([top for top, _ in row]) for row in square]) for square in numbers])
    # By the rule "zero" the columns, and so the rows, have the products that make each row tell all products.
    if not all([bottom == 1 for square in numbers for row in square for _, bottom in row]) or not is_counts(counts):
        raise InvalidOperation("there are no counts with this first table")
    return counts


def _need_row(counts, value):
    if not isinstance(value, tuple) or len(value) != len(counts) or not all([is_number(entry) for entry in value]):
        raise InvalidOperation("this is no row of a number for each kind")


def space_values(counts, row):
    """The tuple of the values of a sum of kinds at all eigenspaces."""
    need_counts(counts)
    _need_row(counts, row)
    return row_times(row, table_turned(need_rows(counts)))


def row_with_values(counts, values):
    """The sum of kinds with the told values at all eigenspaces."""
    need_counts(counts)
    _need_row(counts, values)
    rows = need_rows(counts)
    points = sum(rows[0])
    totals = row_times(values, table_turned(_second_of(rows)))
    return tuple([fraction(top, bottom * points) for top, bottom in totals])


def space_share(scheme, space):
    """The table with Q(k, space) / n for each pair of points of the kind k."""
    need_scheme(scheme)
    counts = scheme.all_numbers()
    need_kind(counts, space)
    second = _second_of(need_rows(counts))
    parts = [fraction(row[space][0], row[space][1] * scheme.size) for row in second]
    return tuple([tuple([parts[kind] for kind in row]) for row in scheme.table])


def frame_number(counts):
    """The frame number: n ** (d + 1), multiplied by all valencies, divided by all multiplicities."""
    need_counts(counts)
    rows = need_rows(counts)
    valencies = rows[0]
    top = raised(sum(valencies), len(valencies))
    bottom = 1
    for valency, (over, under) in zip(valencies, told_multiplicities(rows)):
        top = top * valency * under
        bottom = bottom * over
    return top // bottom
