"""Bounds for the sizes of all lots that keep to some kinds, with papers that show them, and partners."""

from thirdcounts.base.numbers import fraction, is_fraction
from thirdcounts.base.wholes import row_sum, whole_row
from thirdcounts.eigen.spaces import need_rows, told_multiplicities
from thirdcounts.errors import InvalidOperation
from thirdcounts.lots.counting import duals_of
from thirdcounts.lots.simplex import greatest
from thirdcounts.pairs.counts import need_counts
from thirdcounts.pairs.schemes import need_kinds_set


def _need(counts, kinds):
    need_counts(counts)
    need_kinds_set(kinds, len(counts) - 1)


def _with_kinds(rows, kinds, entries):
    """The row with 1 at the kind 0, v(i) times the entry at each of the kinds, and 0 elsewhere."""
    row = [(1, 1)] + [(0, 1)] * (len(rows) - 1)
    for kind, (top, bottom) in zip(kinds, entries):
        row[kind] = fraction(rows[0][kind] * top, bottom)
    return tuple(row)


def _best(rows, kinds):
    """A row that passes and a paper, with one sum and worth.

    With a(i) = v(i) x(i) the dual count at r, divided by m(r), is 1 and the sum of all P(r, i) x(i).
    """
    valencies = rows[0]
    bounds = [[-row[kind] for kind in kinds] for row in rows[1:]]
    entries, weights = greatest(bounds, [valencies[kind] for kind in kinds])
    paper = [(1, 1)]
    for (top, bottom), (over, under) in zip(told_multiplicities(rows)[1:], weights):
        paper.append(fraction(over * bottom, under * top))
    return _with_kinds(rows, kinds, entries), tuple(paper)


def _is_whole_row(rows, value):
    """Whether the value is a tuple of a fraction for each kind, the first one 1."""
    if not isinstance(value, tuple) or len(value) != len(rows):
        return False
    return all([is_fraction(entry) for entry in value]) and value[0] == (1, 1)


def _has_duals_from_0(rows, row):
    return all([top >= 0 for top, _ in duals_of(rows, row)])


def _passes(rows, kinds, value):
    if not _is_whole_row(rows, value):
        return False
    for kind, (top, _) in enumerate(value):
        if top < 0 or top > 0 and kind > 0 and kind not in kinds:
            return False
    return _has_duals_from_0(rows, value)


def bound(counts, kinds):
    """The greatest sum of a row that passes for the kinds set."""
    _need(counts, kinds)
    return row_sum(_best(need_rows(counts), kinds)[0])


def bound_row(counts, kinds):
    """A row that passes with the greatest sum."""
    _need(counts, kinds)
    return _best(need_rows(counts), kinds)[0]


def is_passing(counts, kinds, value):
    """Whether the value is a row that passes for the kinds set."""
    _need(counts, kinds)
    return _passes(need_rows(counts), kinds, value)


def is_bound_row(counts, kinds, value):
    """Whether the value is a row that passes with the greatest sum."""
    _need(counts, kinds)
    rows = need_rows(counts)
    return _passes(rows, kinds, value) and row_sum(value) == row_sum(_best(rows, kinds)[0])


def lots_bound(counts, kinds):
    """The greatest integer that is not above the bound."""
    _need(counts, kinds)
    top, bottom = row_sum(_best(need_rows(counts), kinds)[0])
    return top // bottom


def loose_bound(counts, kinds):
    """The greatest sum of a row of any signs at the kinds of the set, and without dual counts below 0."""
    _need(counts, kinds)
    rows = need_rows(counts)
    # A number of any sign is the difference of two numbers from 0 on.
    bounds = [[-row[kind] for kind in kinds] + [row[kind] for kind in kinds] for row in rows[1:]]
    gains = [rows[0][kind] for kind in kinds]
    entries, _ = greatest(bounds, gains + [-gain for gain in gains])
    ahead = row_sum(_with_kinds(rows, kinds, entries[:len(kinds)]))
    behind = row_sum(_with_kinds(rows, kinds, entries[len(kinds):]))
    # Both sums have the 1 at the kind 0.
    top, bottom = row_sum([ahead, (-behind[0], behind[1])])
    return top + bottom, bottom


def _values_of(rows, paper):
    """The list of all f(i), fractions: f(i) is the sum of all y(r) m(r) P(r, i), divided by v(i)."""
    many = told_multiplicities(rows)
    parts = [fraction(top * over, bottom * under) for (top, bottom), (over, under) in zip(paper, many)]
    wholes, common = whole_row(parts)
    totals = [sum([whole * value for whole, value in zip(wholes, column)]) for column in zip(*rows)]
    return [fraction(total, common * valency) for total, valency in zip(totals, rows[0])]


def _is_paper_row(counts, value):
    """Whether the value is a tuple of a fraction for each kind, all at least 0, the first one 1."""
    return _is_whole_row(counts, value) and all([top >= 0 for top, _ in value])


def _need_paper_row(counts, value):
    need_counts(counts)
    if not _is_paper_row(counts, value):
        raise InvalidOperation("this is no tuple of fractions from 0 on, the first one 1")


def bound_paper(counts, kinds):
    """A paper with the least worth."""
    _need(counts, kinds)
    return _best(need_rows(counts), kinds)[1]


def is_bound_paper(counts, kinds, value):
    """Whether the value is a paper for the kinds set, of any worth."""
    _need(counts, kinds)
    rows = need_rows(counts)
    if not _is_paper_row(counts, value):
        return False
    values = _values_of(rows, value)
    return all([values[kind][0] <= 0 for kind in kinds])


def paper_worth(counts, paper):
    """The worth of a paper: the sum of all y(r) m(r)."""
    _need_paper_row(counts, paper)
    return _values_of(need_rows(counts), paper)[0]


def _row_of_paper(rows, paper):
    values = _values_of(rows, paper)
    over, under = values[0]
    row = []
    for valency, (top, bottom) in zip(rows[0], values):
        row.append(fraction(valency * top * under, bottom * over))
    return tuple(row)


def row_of_paper(counts, paper):
    """The partner row that a paper makes: v(i) f(i) / f(0) at each i."""
    _need_paper_row(counts, paper)
    return _row_of_paper(need_rows(counts), paper)


def paper_of_row(counts, row):
    """The paper that a row without dual counts below 0 makes: b(r) / (m(r) b(0)) at each r."""
    need_counts(counts)
    # The sum is the dual count at the eigenspace 0.
    if not _is_whole_row(counts, row) or row_sum(row)[0] <= 0:
        raise InvalidOperation("this is no row with a sum above 0")
    rows = need_rows(counts)
    duals = duals_of(rows, row)
    if not all([top >= 0 for top, _ in duals]):
        raise InvalidOperation("the row has a dual count below 0")
    first, last = duals[0]
    many = told_multiplicities(rows)
    paper = []
    for (top, bottom), (over, under) in zip(duals, many):
        paper.append(fraction(top * under * last, bottom * over * first))
    return tuple(paper)


def partner(counts, kinds):
    """The greatest sum of a partner row of the kinds set."""
    _need(counts, kinds)
    rows = need_rows(counts)
    top, bottom = row_sum(_best(rows, kinds)[0])
    return fraction(sum(rows[0]) * bottom, top)


def partner_row(counts, kinds):
    """A partner row with the greatest sum."""
    _need(counts, kinds)
    rows = need_rows(counts)
    return _row_of_paper(rows, _best(rows, kinds)[1])


def is_partner_row(counts, kinds, value):
    """Whether the value is a partner row of the kinds set, of any sum."""
    _need(counts, kinds)
    rows = need_rows(counts)
    if not _is_whole_row(rows, value) or not all([value[kind][0] <= 0 for kind in kinds]):
        return False
    return _has_duals_from_0(rows, value)
