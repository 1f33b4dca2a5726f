"""Kinds put together: the partings of the kinds that make schemes, and what shows that one makes none."""

from thirdcounts.base.numbers import is_between
from thirdcounts.eigen.spaces import need_rows
from thirdcounts.errors import InvalidOperation, InvalidParting, TooMany
from thirdcounts.pairs.counts import need_counts
from thirdcounts.pairs.schemes import Scheme, is_parting_of, need_scheme

MAX_FUSED = 7


def _need_parting(value, most):
    if not is_parting_of(value, 1, most):
        raise InvalidParting("this is no parting of the kinds")


def is_parting(counts, value):
    """Whether the value is a parting of the kinds."""
    need_counts(counts)
    return is_parting_of(value, 1, len(counts) - 1)


def _sums_at(counts, lots, kind):
    """For each two lots the number of the thirds that have kinds of them to the points of a pair of a kind."""
    square = counts[kind]
    parts = [[sum([row[second] for second in lot]) for lot in lots] for row in square]
    return [[sum([parts[first][index] for first in lot]) for index in range(len(lots))] for lot in lots]


def _unlike_place(one, other):
    """The first place at which two tables differ, `None` if they are equal."""
    for index, row in enumerate(one):
        for further, entry in enumerate(row):
            if entry != other[index][further]:
                return index, further
    return None


def _fault_of(counts, parting):
    lots = ((0,), *parting)
    for lot in parting:
        wanted = _sums_at(counts, lots, lot[0])
        for kind in lot[1:]:
            place = _unlike_place(wanted, _sums_at(counts, lots, kind))
            if place is not None:
                return (*place, lot[0], kind)
    return None


def is_fusion(counts, parting):
    """Whether the parting is a fusion."""
    need_counts(counts)
    _need_parting(parting, len(counts) - 1)
    return _fault_of(counts, parting) is None


def fusion_fault(counts, parting):
    """Two indices of lots, and two kinds of one lot at which their sums are unlike, `None` for a fusion."""
    need_counts(counts)
    _need_parting(parting, len(counts) - 1)
    return _fault_of(counts, parting)


def is_fusion_fault(counts, parting, value):
    """Whether the value shows that the parting is no fusion."""
    need_counts(counts)
    _need_parting(parting, len(counts) - 1)
    if not isinstance(value, tuple) or len(value) != 4:
        return False
    if not all([is_between(index, 0, len(parting)) for index in value[:2]]):
        return False
    if not all([is_between(kind, 1, len(counts) - 1) for kind in value[2:]]):
        return False
    one, other, first, second = value
    if not any([first in lot and second in lot for lot in parting]):
        return False
    lots = ((0,), *parting)
    return _sums_at(counts, lots, first)[one][other] != _sums_at(counts, lots, second)[one][other]


def _need_fusion(counts, parting):
    if _fault_of(counts, parting) is not None:
        raise InvalidOperation("the parting is no fusion")


def fused_counts(counts, parting):
    """The counts of the kinds put together."""
    need_counts(counts)
    _need_parting(parting, len(counts) - 1)
    _need_fusion(counts, parting)
    lots = ((0,), *parting)
    return tuple([tuple([tuple(row) for row in _sums_at(counts, lots, lot[0])]) for lot in lots])


def fused(scheme, parting):
    """The scheme of the kinds put together."""
    need_scheme(scheme)
    _need_parting(parting, scheme.most)
    _need_fusion(scheme.all_numbers(), parting)
    names = {kind: index for index, lot in enumerate(((0,), *parting)) for kind in lot}
    return Scheme(tuple([tuple([names[told] for told in row]) for row in scheme.table]))


def _by_marks(marks, low):
    """The lots of the integers from `low` on that have equal marks, each lot ascending, by their firsts."""
    found = {}
    for index, mark in enumerate(marks):
        found.setdefault(mark, []).append(low + index)
    return tuple([tuple(lot) for lot in found.values()])


def spaces_parting(counts, parting):
    """The lots of the eigenspaces whose rows are equal when their columns are added up along each lot of kinds."""
    need_counts(counts)
    _need_parting(parting, len(counts) - 1)
    rows = need_rows(counts)
    sums = [tuple([sum([row[kind] for kind in lot]) for lot in parting]) for row in rows]
    return _by_marks(sums, 0)


def _lots_from(begun, further):
    """The ascending list of the tuples that begin with `begun` and go on with some of the further kinds."""
    found = [begun]
    for index, kind in enumerate(further):
        found = found + _lots_from((*begun, kind), further[index + 1:])
    return found


def _each_parting(kinds):
    """All partings of an ascending tuple of kinds, ascending."""
    if not kinds:
        yield ()
        return
    for lot in _lots_from(kinds[:1], kinds[1:]):
        left = tuple([kind for kind in kinds if kind not in lot])
        for parting in _each_parting(left):
            yield (lot, *parting)


def _told_kinds(counts):
    """All kinds from 1 on; `TooMany` if there are too many to go through their partings."""
    if len(counts) - 1 > MAX_FUSED:
        raise TooMany(MAX_FUSED)
    return tuple(range(1, len(counts)))


def all_partings(counts):
    """All partings of the kinds, one by one, ascending."""
    need_counts(counts)
    kinds = _told_kinds(counts)
    yield from _each_parting(kinds)


def all_fusions(counts):
    """The ascending tuple of all fusions."""
    need_counts(counts)
    kinds = _told_kinds(counts)
    return tuple([parting for parting in _each_parting(kinds) if _fault_of(counts, parting) is None])


def _lot_with(parting, kind):
    return [lot for lot in parting if kind in lot][0]


def common_parting(counts, one, other):
    """The parting with two kinds in one lot if a row of kinds leads from one to the other through lots of both."""
    need_counts(counts)
    _need_parting(one, len(counts) - 1)
    _need_parting(other, len(counts) - 1)
    lots = list(one)
    for lot in other:
        met = [part for part in lots if any([kind in lot for kind in part])]
        joined = tuple([further for part in met for further in part])
        lots = [part for part in lots if part not in met] + [joined]
    return tuple(sorted([tuple(sorted(lot)) for lot in lots]))


def met_parting(counts, one, other):
    """The parting whose lots are the kinds that are together in both."""
    need_counts(counts)
    _need_parting(one, len(counts) - 1)
    _need_parting(other, len(counts) - 1)
    return _by_marks([_lot_with(one, kind) + (0,) + _lot_with(other, kind) for kind in range(1, len(counts))], 1)


def fused_twice(counts, parting, further):
    """The parting that puts the kinds together as `parting` does, and then `further` those that come."""
    need_counts(counts)
    _need_parting(parting, len(counts) - 1)
    _need_parting(further, len(parting))
    lots = [sorted([kind for index in lot for kind in parting[index - 1]]) for lot in further]
    return tuple([tuple(lot) for lot in lots])
