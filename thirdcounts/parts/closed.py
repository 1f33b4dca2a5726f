"""Closed sets of kinds, the classes and pieces that they make of a scheme, and quotients."""

from thirdcounts.eigen.spaces import need_rows
from thirdcounts.errors import InvalidKinds, Refused
from thirdcounts.pairs.counts import need_counts, told_valencies
from thirdcounts.pairs.schemes import Scheme, is_ascending, need_kinds_set, need_point, need_scheme


def _products_of(counts):
    """For each two kinds the list of the kinds at which their product is not 0."""
    kinds = range(len(counts))
    return [[[k for k in kinds if counts[k][i][j] != 0] for j in kinds] for i in kinds]


def _are_closed(products, kinds):
    """Whether no product of two of the kinds has another kind."""
    for one in kinds:
        for other in kinds:
            if not all([kind in kinds for kind in products[one][other]]):
                return False
    return True


def _is_closed(counts, value):
    if not is_ascending(value, 0, len(counts) - 1) or 0 not in value:
        return False
    return _are_closed(_products_of(counts), value)


def _need_closed(counts, value):
    if not _is_closed(counts, value):
        raise InvalidKinds("this is no closed set of kinds")


def _all_sets(most):
    """All ascending tuples of kinds from 1 to `most`, behind 0."""
    sets = [(0,)]
    for kind in range(1, most + 1):
        sets = sets + [(*kinds, kind) for kinds in sets]
    return sets


def _all_closed(counts):
    products = _products_of(counts)
    return sorted([kinds for kinds in _all_sets(len(counts) - 1) if _are_closed(products, kinds)])


def is_closed(counts, value):
    """Whether the value is a closed set."""
    need_counts(counts)
    return _is_closed(counts, value)


def closed_sets(counts):
    """The ascending tuple of all closed sets."""
    need_counts(counts)
    return tuple(_all_closed(counts))


def closed_by(counts, kinds):
    """The least closed set that has the told kinds."""
    need_counts(counts)
    need_kinds_set(kinds, len(counts) - 1)
    products = _products_of(counts)
    inside = [0, *kinds]
    while True:
        reached = sorted({kind for one in inside for other in inside for kind in products[one][other]})
        # The kind 0 changes nothing, so what is inside is always reached.
        if reached == inside:
            return tuple(inside)
        inside = reached


def _classes_of(scheme, closed):
    classes = []
    for point, row in enumerate(scheme.table):
        members = tuple([other for other, kind in enumerate(row) if kind in closed])
        if members[0] == point:
            classes.append(members)
    return tuple(classes)


def classes_of(scheme, closed):
    """The ascending tuple of the classes, ascending tuples of points."""
    need_scheme(scheme)
    _need_closed(scheme.all_numbers(), closed)
    return _classes_of(scheme, closed)


def piece(scheme, closed, point):
    """The scheme of the points of the class of a point."""
    need_scheme(scheme)
    _need_closed(scheme.all_numbers(), closed)
    need_point(point, scheme.size)
    table = scheme.table
    members = [other for other, kind in enumerate(table[point]) if kind in closed]
    return Scheme(tuple([tuple([closed.index(table[one][other]) for other in members]) for one in members]))


def piece_counts(counts, closed):
    """The counts of all pieces."""
    need_counts(counts)
    _need_closed(counts, closed)
    return tuple([tuple([tuple([counts[k][i][j] for j in closed]) for i in closed]) for k in closed])


def _bundles_of(counts, closed):
    products = _products_of(counts)
    found = []
    for first in range(len(counts)):
        bundle = tuple(sorted({kind for via in closed for kind in products[first][via]}))
        if bundle[0] == first:
            found.append(bundle)
    return tuple(found)


def bundles(counts, closed):
    """The tuple of the bundles, ascending tuples of kinds, by their least kinds."""
    need_counts(counts)
    _need_closed(counts, closed)
    return _bundles_of(counts, closed)


def quotient(scheme, closed):
    """The scheme of the classes."""
    need_scheme(scheme)
    counts = scheme.all_numbers()
    _need_closed(counts, closed)
    table = scheme.table
    names = {kind: index for index, bundle in enumerate(_bundles_of(counts, closed)) for kind in bundle}
    firsts = [members[0] for members in _classes_of(scheme, closed)]
    return Scheme(tuple([tuple([names[table[one][other]] for other in firsts]) for one in firsts]))


def _weight_of(counts, closed):
    """The sum of the valencies of a closed set."""
    valencies = told_valencies(counts)
    return sum([valencies[kind] for kind in closed])


def quotient_counts(counts, closed):
    """The counts of the quotient."""
    need_counts(counts)
    _need_closed(counts, closed)
    weight = _weight_of(counts, closed)
    found = _bundles_of(counts, closed)
    table = []
    for last in found:
        numbers = counts[last[0]]
        sums = [[sum([numbers[i][j] for i in first for j in second]) for second in found] for first in found]
        if any([total % weight != 0 for row in sums for total in row]):
            raise Refused(("quotient",))
        table.append(tuple([tuple([total // weight for total in row]) for row in sums]))
    return tuple(table)


def spaces_above(counts, closed):
    """The ascending tuple of the eigenspaces above a closed set."""
    need_counts(counts)
    _need_closed(counts, closed)
    rows = need_rows(counts)
    return tuple([space for space, row in enumerate(rows) if all([row[kind] == rows[0][kind] for kind in closed])])


def is_primitive(counts):
    """Whether there are no closed sets but (0,) and that of all kinds."""
    need_counts(counts)
    return all([len(kinds) in (1, len(counts)) for kinds in _all_closed(counts)])
