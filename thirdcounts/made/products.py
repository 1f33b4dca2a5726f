"""Schemes made of two schemes, or of many places with one scheme, with their counts and first tables."""

from math import comb

from thirdcounts.base.numbers import is_between, raised
from thirdcounts.eigen.spaces import need_rows
from thirdcounts.errors import InvalidNumber, TooMany
from thirdcounts.pairs.counts import need_counts, told_valencies
from thirdcounts.pairs.schemes import Scheme, need_scheme

MOST_POINTS = 32
MOST_KINDS = 10
MOST_COUNT = 10 ** 12

_MOST_PLACES = 10


def _need_many(value):
    if not is_between(value, 1, _MOST_PLACES):
        raise InvalidNumber(value)


def _need_few_points(many):
    if many > MOST_POINTS:
        raise TooMany(MOST_POINTS)


def _need_few_kinds(many):
    """Raise `TooMany` if so many kinds, the kind 0 among them, are too many."""
    if many - 1 > MOST_KINDS:
        raise TooMany(MOST_KINDS)


def _need_small(counts):
    # No number p(i, j; k) is above v(i).
    if max(told_valencies(counts)) > MOST_COUNT:
        raise TooMany(MOST_COUNT)


def _as_tuples(table):
    return tuple([tuple([tuple(row) for row in square]) for square in table])


def beside(one, other):
    """The scheme of the pairs of a point of one scheme and a point of the other one."""
    need_scheme(one)
    need_scheme(other)
    _need_few_points(one.size * other.size)
    _need_few_kinds((one.most + 1) * (other.most + 1))
    step = other.most + 1
    pairs = [(left, right) for left in one.table for right in other.table]
    return Scheme(tuple([tuple([high * step + low for high in left for low in right]) for left, right in pairs]))


def inside(one, other):
    """The scheme in which each point of the other scheme is replaced by all points of one scheme."""
    need_scheme(one)
    need_scheme(other)
    _need_few_points(one.size * other.size)
    _need_few_kinds(one.most + other.most + 1)
    rows = []
    for outer in other.table:
        for inner in one.table:
            parts = [inner if kind == 0 else (one.most + kind,) * one.size for kind in outer]
            rows.append(tuple([entry for part in parts for entry in part]))
    return Scheme(tuple(rows))


def _types_up_to(most, many):
    """The ascending list of all tuples of `most` integers from 0 on with a sum of at most `many`."""
    found = [()]
    for _ in range(most):
        found = [(*begun, further) for begun in found for further in range(many - sum(begun) + 1)]
    return found


def _one_more(told, kind):
    """What is told of kinds, with one more place of a kind."""
    return tuple([many + 1 if index + 1 == kind else many for index, many in enumerate(told)])


def _kinds_at_places(one, other, scheme):
    """How often two tuples of points have each kind from 1 on."""
    kinds = [scheme.table[left][right] for left, right in zip(one, other)]
    return tuple([kinds.count(kind) for kind in range(1, scheme.most + 1)])


def power(scheme, many):
    """The scheme of the tuples of so many points; the kind of two of them tells how often they have each kind."""
    need_scheme(scheme)
    _need_many(many)
    _need_few_points(raised(scheme.size, many))
    _need_few_kinds(comb(scheme.most + many, many))
    names = {told: name for name, told in enumerate(_types_up_to(scheme.most, many))}
    points = [()]
    for _ in range(many):
        points = [(*begun, point) for begun in points for point in range(scheme.size)]
    return Scheme(tuple([tuple([names[_kinds_at_places(one, other, scheme)] for other in points]) for one in points]))


def power_types(most, many):
    """The ascending tuple of the types of `many` places for the kinds to `most`."""
    if not is_between(most, 0, MOST_KINDS):
        raise InvalidNumber(most)
    _need_many(many)
    _need_few_kinds(comb(most + many, many))
    return tuple(_types_up_to(most, many))


def _beside_counts(one, other):
    _need_few_kinds(len(one) * len(other))
    table = []
    for left in one:
        for right in other:
            table.append([[high * low for high in first for low in second] for first in left for second in right])
    _need_small(table)
    return _as_tuples(table)


def _inside_counts(one, other):
    most = len(one) - 1
    _need_few_kinds(len(one) + len(other) - 1)
    valencies, outer = told_valencies(one), told_valencies(other)
    points = sum(valencies)
    far = range(1, len(other))
    table = []
    for square in one:
        # A third outside of the place has one kind to both points, that of its own place.
        rows = [list(row) + [0] * (len(other) - 1) for row in square]
        level = [[0] * (most + 1) + [points * outer[low] if low == high else 0 for high in far] for low in far]
        table.append(rows + level)
    for kind in far:
        # A third in the place of one point has the kind of both places to the other point.
        rows = [[0] * (most + 1) + [valency if high == kind else 0 for high in far] for valency in valencies]
        level = []
        for low in far:
            first = [valency if low == kind else 0 for valency in valencies]
            level.append(first + [points * other[kind][low][high] for high in far])
        table.append(rows + level)
    _need_small(table)
    return _as_tuples(table)


def _all_kinds(told, many):
    """The kinds of all of `many` places, for what tells how many of them have each kind."""
    kinds = [0] * (many - sum(told))
    for index, times in enumerate(told):
        kinds = kinds + [index + 1] * times
    return kinds


def _pairs_at(counts, told, many):
    """By two of the types the number of the thirds that have them to tuples of points that have `told`."""
    zero = (0,) * (len(counts) - 1)
    found = {(zero, zero): 1}
    for kind in _all_kinds(told, many):
        longer = {}
        for (one, other), times in found.items():
            for first, row in enumerate(counts[kind]):
                for second, entry in enumerate(row):
                    if entry > 0:
                        pair = (_one_more(one, first), _one_more(other, second))
                        longer[pair] = longer.get(pair, 0) + times * entry
        found = longer
    return found


def _power_counts(counts, many):
    _need_few_kinds(comb(len(counts) - 1 + many, many))
    types = _types_up_to(len(counts) - 1, many)
    table = []
    for told in types:
        found = _pairs_at(counts, told, many)
        table.append([[found.get((one, other), 0) for other in types] for one in types])
    _need_small(table)
    return _as_tuples(table)


def beside_counts(one, other):
    """The counts of the scheme beside."""
    need_counts(one)
    need_counts(other)
    return _beside_counts(one, other)


def inside_counts(one, other):
    """The counts of the scheme inside."""
    # The example of the document passes two schemes here, although its words ask for counts.
    if isinstance(one, Scheme) and isinstance(other, Scheme):
        return _inside_counts(one.all_numbers(), other.all_numbers())
    need_counts(one)
    need_counts(other)
    return _inside_counts(one, other)


def power_counts(counts, many):
    """The counts of the power."""
    need_counts(counts)
    _need_many(many)
    return _power_counts(counts, many)


def _descending(rows):
    return tuple(sorted([tuple(row) for row in rows], reverse=True))


def beside_table(one, other):
    """The first table of the scheme beside."""
    need_counts(one)
    need_counts(other)
    _beside_counts(one, other)
    left, right = need_rows(one), need_rows(other)
    return _descending([[high * low for high in first for low in second] for first in left for second in right])


def inside_table(one, other):
    """The first table of the scheme inside."""
    need_counts(one)
    need_counts(other)
    _inside_counts(one, other)
    left, right = need_rows(one), need_rows(other)
    valencies = left[0]
    points = sum(valencies)
    across = [list(valencies) + [points * entry for entry in row[1:]] for row in right]
    return _descending(across + [list(row) + [0] * (len(right) - 1) for row in left[1:]])


def _values_by_types(rows, told, many):
    """By types the coefficients of the product of the rows of the eigenspaces that are told."""
    found = {(0,) * (len(rows) - 1): 1}
    for space in _all_kinds(told, many):
        longer = {}
        for begun, value in found.items():
            for kind, entry in enumerate(rows[space]):
                further = _one_more(begun, kind)
                longer[further] = longer.get(further, 0) + value * entry
        found = longer
    return found


def power_table(counts, many):
    """The first table of the power."""
    need_counts(counts)
    _need_many(many)
    _power_counts(counts, many)
    rows = need_rows(counts)
    types = _types_up_to(len(counts) - 1, many)
    values = [_values_by_types(rows, told, many) for told in types]
    return _descending([[value[told] for told in types] for value in values])
