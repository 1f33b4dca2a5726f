"""Schemes: tables of the kinds of all pairs of points, in which all pairs of one kind have equal thirds."""

from math import comb

from thirdcounts.base.numbers import is_between, is_whole, raised
from thirdcounts.errors import InvalidKinds, InvalidMoves, InvalidNumber, InvalidOrder, InvalidScheme, TooMany

MAX_POINTS = 32
MAX_KINDS = 10

_MOST_PLACES = 5
_MOST_IN_RING = 20


def is_sequence(value, size):
    """Whether the value is a tuple of the integers from 0 to `size` - 1, each once."""
    if not isinstance(value, tuple) or len(value) != size:
        return False
    if not all([is_whole(entry) for entry in value]):
        return False
    return sorted(value) == list(range(size))


def is_order(value, most):
    """Whether the value is a tuple of the integers from 0 to `most`, each once, 0 first."""
    return is_sequence(value, most + 1) and value[0] == 0


def is_ascending(value, low, high):
    """Whether the value is an ascending tuple, perhaps empty, of integers from `low` to `high`."""
    if not isinstance(value, tuple) or not all([is_between(entry, low, high) for entry in value]):
        return False
    return all([one < other for one, other in zip(value, value[1:])])


def is_parting_of(value, low, high):
    """Whether the value is a tuple of lots that have the integers from `low` to `high`, each once, by their firsts."""
    if not isinstance(value, tuple) or not all([is_ascending(lot, low, high) and len(lot) > 0 for lot in value]):
        return False
    firsts = [lot[0] for lot in value]
    parted = tuple([entry - low for lot in value for entry in lot])
    return firsts == sorted(firsts) and is_sequence(parted, high - low + 1)


def need_kinds_set(value, most):
    """Raise `InvalidKinds` unless the value is an ascending tuple of kinds from 1 to `most`."""
    if not is_ascending(value, 1, most):
        raise InvalidKinds("this is no ascending tuple of kinds from 1 on")


def _is_kinds_row(value, size):
    if not isinstance(value, tuple) or len(value) != size:
        return False
    return all([is_between(kind, 0, MAX_KINDS) for kind in value])


def is_kinds_table(value):
    """Whether the value is a kinds table of 1 to 32 points."""
    if not isinstance(value, tuple) or not 1 <= len(value) <= MAX_POINTS:
        return False
    size = len(value)
    if not all([_is_kinds_row(row, size) for row in value]):
        return False
    for one, row in enumerate(value):
        for other, kind in enumerate(row):
            if kind != value[other][one] or (kind == 0) != (one == other):
                return False
    found = sorted({kind for row in value for kind in row})
    return found == list(range(len(found)))


def _need_table(value):
    if not is_kinds_table(value):
        raise InvalidScheme("this is no kinds table")


def need_point(value, size):
    """Raise `InvalidNumber` unless the value is one of so many points."""
    if not is_between(value, 0, size - 1):
        raise InvalidNumber(value)


def _most_of(table):
    # The first row of a kinds table that is no scheme need not have all of its kinds.
    return max([max(row) for row in table])


def _thirds_of(table, most, one, other):
    found = [[0] * (most + 1) for _ in range(most + 1)]
    # The table is symmetric, so the row of the other point has the kinds of all pairs (z, other).
    for first, second in zip(table[one], table[other]):
        found[first][second] = found[first][second] + 1
    return tuple([tuple(row) for row in found])


def thirds(table, one, other):
    """How many points have the kind i to `one` and the kind j to `other`, at the index j of the tuple i."""
    _need_table(table)
    need_point(one, len(table))
    need_point(other, len(table))
    return _thirds_of(table, _most_of(table), one, other)


def _unlike_place(one, other):
    """The first pair of indices at which two unlike tables of thirds differ."""
    for first, row in enumerate(one):
        for second, entry in enumerate(row):
            if entry != other[first][second]:
                return first, second
    return None


def thirds_and_fault(table):
    """The pair of the thirds that pairs have, by their kinds, and of a fault, `None` if there is none.

    The table is like a kinds table, but it can have any number of points and of kinds.
    """
    most = _most_of(table)
    pairs = {}
    told = {}
    for one, row in enumerate(table):
        for other, kind in enumerate(row):
            found = _thirds_of(table, most, one, other)
            if kind not in told:
                pairs[kind] = (one, other)
                told[kind] = found
            elif told[kind] != found:
                return (), pairs[kind] + (one, other) + _unlike_place(told[kind], found)
    return tuple([told[kind] for kind in range(most + 1)]), None


def is_scheme_table(value):
    """Whether the value is a kinds table that is a scheme."""
    return is_kinds_table(value) and thirds_and_fault(value)[1] is None


def scheme_fault(table):
    """A tuple (x, y, u, w, i, j) that shows that a kinds table is no scheme, `None` if it is one."""
    _need_table(table)
    return thirds_and_fault(table)[1]


def is_fault(table, value):
    """Whether the value is a fault of the kinds table."""
    _need_table(table)
    if not isinstance(value, tuple) or len(value) != 6:
        return False
    if not all([is_between(point, 0, len(table) - 1) for point in value[:4]]):
        return False
    most = _most_of(table)
    if not all([is_between(kind, 0, most) for kind in value[4:]]):
        return False
    one, other, third, fourth, first, second = value
    if table[one][other] != table[third][fourth]:
        return False
    left = _thirds_of(table, most, one, other)
    right = _thirds_of(table, most, third, fourth)
    return left[first][second] != right[first][second]


def points_of_words(places, letters):
    """The ascending tuple of all words of `places` letters out of `letters` letters."""
    if not is_between(places, 1, _MOST_PLACES):
        raise InvalidNumber(places)
    if not is_between(letters, 2, MAX_POINTS):
        raise InvalidNumber(letters)
    if raised(letters, places) > MAX_POINTS:
        raise TooMany(MAX_POINTS)
    words = [()]
    for _ in range(places):
        words = [(*word, letter) for word in words for letter in range(letters)]
    return tuple(words)


def points_of_subsets(things, many):
    """The ascending tuple of all subsets of `many` out of `things` things, ascending tuples."""
    if not is_between(things, 1, MAX_POINTS):
        raise InvalidNumber(things)
    if not is_between(many, 0, things):
        raise InvalidNumber(many)
    if comb(things, many) > MAX_POINTS:
        raise TooMany(MAX_POINTS)
    subsets = [()]
    for size in range(many):
        # Only what leaves enough greater things is begun, so that there are never many more subsets than at the end.
        least = [subset[-1] + 1 if subset else 0 for subset in subsets]
        most = things - many + size + 1
        subsets = [(*subset, thing) for subset, low in zip(subsets, least) for thing in range(low, most)]
    return tuple(subsets)


def _unlike_places(one, other):
    return len([place for place, letter in enumerate(one) if letter != other[place]])


def _lacking(one, other):
    return len([thing for thing in one if thing not in other])


def _ring_row(size, point):
    return tuple([min((point - other) % size, (other - point) % size) for other in range(size)])


class Scheme:
    """A scheme, by its kinds table."""

    def __init__(self, table):
        _need_table(table)
        numbers, fault = thirds_and_fault(table)
        if fault is not None:
            raise InvalidScheme("two pairs of one kind have unlike thirds")
        self._table = table
        self._numbers = numbers
        self._valencies = tuple([row[kind] for kind, row in enumerate(numbers[0])])

    @classmethod
    def by_sharing(cls, things, many):
        """The subsets of `many` out of `things` things; the kind is how many things only one of both has."""
        subsets = points_of_subsets(things, many)
        return cls(tuple([tuple([_lacking(one, other) for other in subsets]) for one in subsets]))

    @classmethod
    def by_places(cls, places, letters):
        """The words of `places` letters out of `letters` letters; the kind is at how many places they differ."""
        words = points_of_words(places, letters)
        return cls(tuple([tuple([_unlike_places(one, other) for other in words]) for one in words]))

    @classmethod
    def by_ring(cls, size):
        """The points round a ring; the kind is the least number of steps."""
        if not is_between(size, 1, _MOST_IN_RING):
            raise InvalidNumber(size)
        return cls(tuple([_ring_row(size, point) for point in range(size)]))

    @classmethod
    def lone(cls, size):
        """So many points; all unlike ones have the kind 1."""
        if not is_between(size, 1, MAX_POINTS):
            raise InvalidNumber(size)
        return cls(tuple([(1,) * one + (0,) + (1,) * (size - one - 1) for one in range(size)]))

    @property
    def table(self):
        """The kinds of all pairs."""
        return self._table

    @property
    def size(self):
        """The number of the points."""
        return len(self._table)

    @property
    def most(self):
        """The greatest kind."""
        return len(self._valencies) - 1

    @property
    def valencies(self):
        """How many points are of each kind to a point."""
        return self._valencies

    def all_numbers(self):
        """The numbers p(i, j; k), at the index j of the tuple i of the tuple k."""
        return self._numbers

    def _need_kind(self, value):
        if not is_between(value, 0, len(self._valencies) - 1):
            raise InvalidNumber(value)

    def kind_of(self, one, other):
        """The kind of two points."""
        need_point(one, len(self._table))
        need_point(other, len(self._table))
        return self._table[one][other]

    def around(self, point, kind):
        """The ascending tuple of the points of this kind to the point."""
        need_point(point, len(self._table))
        self._need_kind(kind)
        return tuple([other for other, found in enumerate(self._table[point]) if found == kind])

    def number(self, first, second, kind):
        """How many thirds of two points of the kind `kind` have the kind `first` to one, `second` to the other one."""
        self._need_kind(first)
        self._need_kind(second)
        self._need_kind(kind)
        return self._numbers[kind][first][second]

    def renamed(self, move):
        """The scheme with the kind of (move[x], move[y]) at (x, y)."""
        if not is_sequence(move, len(self._table)):
            raise InvalidMoves("this is no move of the points")
        return Scheme(tuple([tuple([self._table[one][other] for other in move]) for one in move]))

    def renumbered(self, names):
        """The scheme with names[k] in the place of each kind k."""
        if not is_order(names, len(self._valencies) - 1):
            raise InvalidOrder("these are no names of the kinds")
        return Scheme(tuple([tuple([names[kind] for kind in row]) for row in self._table]))

    def __eq__(self, value):
        return isinstance(value, Scheme) and self._table == value._table

    def __len__(self):
        return len(self._table)

    def __iter__(self):
        return iter(self._table)

    def __contains__(self, value):
        # Python's own search would take True for 1.
        return _is_kinds_row(value, len(self._table)) and value in self._table

    def __str__(self):
        return f"scheme of {len(self._table)} points, {len(self._valencies) - 1} kinds"


def need_scheme(value):
    """Raise `InvalidScheme` unless the value is a scheme."""
    if not isinstance(value, Scheme):
        raise InvalidScheme("this is no scheme")
