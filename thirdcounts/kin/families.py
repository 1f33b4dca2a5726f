"""Families of schemes of any size: words, subsets, subspaces and forms, by their first tables."""

from math import comb

from thirdcounts.base.numbers import is_between, raised
from thirdcounts.base.polys import fitted
from thirdcounts.errors import InvalidNumber, TooMany

MOST_THINGS = 40
MOST_PLACES = 30
MOST_SIZE = 12
MOST_TABLED = 10
LETTERS = (2, 3, 4, 5, 7, 8, 9)

_MOST_LETTERS = 9
_MOST_ROWS = 6
_MOST_COUNT = 10 ** 12


def _signed(whole, many):
    """The integer, with the other sign if `many` is odd."""
    return -whole if many % 2 == 1 else whole


def _chosen(top, low):
    """In how many ways `low` of `top` things can be chosen, 0 for `low` below 0."""
    return comb(top, low) if low >= 0 else 0


def _spaces(letters, top, low):
    """How many subspaces of `low` dimensions a space of `top` dimensions has."""
    if not 0 <= low <= top:
        return 0
    over, under = 1, 1
    for step in range(low):
        over = over * (raised(letters, top - step) - 1)
        under = under * (raised(letters, step + 1) - 1)
    return over // under


def _words_value(places, letters, space, kind):
    total = 0
    for low in range(kind + 1):
        ways = _chosen(space, low) * _chosen(places - space, kind - low)
        total = total + _signed(raised(letters - 1, kind - low) * ways, low)
    return total


def _subsets_value(things, many, space, kind):
    total = 0
    for low in range(kind + 1):
        ways = _chosen(many - space, kind - low) * _chosen(things - many - space, kind - low)
        total = total + _signed(_chosen(space, low) * ways, low)
    return total


def _subspaces_value(size, many, letters, space, kind):
    total = 0
    for low in range(kind + 1):
        steps = kind - low
        ways = _spaces(letters, many - low, steps) * _spaces(letters, many - space, low)
        ways = ways * _spaces(letters, size - many + low - space, low)
        total = total + _signed(raised(letters, space * low + comb(steps, 2)) * ways, steps)
    return total


def _forms_value(rows, columns, letters, space, kind):
    total = 0
    for low in range(kind + 1):
        steps = kind - low
        ways = _spaces(letters, rows - low, rows - kind) * _spaces(letters, rows - space, low)
        total = total + _signed(raised(letters, low * columns + comb(steps, 2)) * ways, steps)
    return total


def _need_words(places, letters):
    if not is_between(places, 1, MOST_PLACES):
        raise InvalidNumber(places)
    if not is_between(letters, 2, _MOST_LETTERS):
        raise InvalidNumber(letters)


def _need_field(letters):
    if letters not in LETTERS:
        raise InvalidNumber(letters)


class Family:
    """A family of schemes with its sizes."""

    def __init__(self, name, sizes, rows, multiplicities):
        self._name = name
        self._sizes = sizes
        self._rows = rows
        self._multiplicities = multiplicities

    @classmethod
    def words(cls, places, letters):
        """The words of so many places and letters; the kind is at how many places they differ."""
        _need_words(places, letters)
        kinds = range(places + 1)
        rows = tuple([tuple([_words_value(places, letters, space, kind) for kind in kinds]) for space in kinds])
        return cls("words", (places, letters), rows, rows[0])

    @classmethod
    def subsets(cls, things, many):
        """The subsets of so many things; the kind is how many things only one of both has."""
        if not is_between(things, 1, MOST_THINGS):
            raise InvalidNumber(things)
        if not is_between(many, 0, things):
            raise InvalidNumber(many)
        kinds = range(min(many, things - many) + 1)
        rows = tuple([tuple([_subsets_value(things, many, space, kind) for kind in kinds]) for space in kinds])
        dimensions = [_chosen(things, space) - _chosen(things, space - 1) for space in kinds]
        return cls("subsets", (things, many), rows, tuple(dimensions))

    @classmethod
    def subspaces(cls, size, many, letters):
        """The subspaces of `many` out of `size` dimensions; the kind is how many dimensions only one of both has."""
        if not is_between(size, 1, MOST_SIZE):
            raise InvalidNumber(size)
        if not is_between(many, 0, size):
            raise InvalidNumber(many)
        _need_field(letters)
        kinds = range(min(many, size - many) + 1)
        rows = tuple([tuple([_subspaces_value(size, many, letters, space, kind) for kind in kinds]) for space in kinds])
        dimensions = [_spaces(letters, size, space) - _spaces(letters, size, space - 1) for space in kinds]
        return cls("subspaces", (size, many, letters), rows, tuple(dimensions))

    @classmethod
    def forms(cls, rows, columns, letters):
        """The tables of so many rows and columns; the kind is the rank of the difference."""
        if not is_between(rows, 1, _MOST_ROWS):
            raise InvalidNumber(rows)
        if not is_between(columns, rows, MOST_SIZE):
            raise InvalidNumber(columns)
        _need_field(letters)
        kinds = range(rows + 1)
        table = tuple([tuple([_forms_value(rows, columns, letters, space, kind) for kind in kinds]) for space in kinds])
        return cls("forms", (rows, columns, letters), table, table[0])

    @property
    def most(self):
        """The greatest kind."""
        return len(self._rows) - 1

    @property
    def points(self):
        """The number of the points."""
        return sum(self._rows[0])

    @property
    def valencies(self):
        """How many points are of each kind to a point."""
        return self._rows[0]

    @property
    def multiplicities(self):
        """The multiplicities of the eigenspaces."""
        return self._multiplicities

    def _need(self, value):
        if not is_between(value, 0, len(self._rows) - 1):
            raise InvalidNumber(value)

    def eigenvalue(self, space, kind):
        """The entry of the first table at an eigenspace and a kind."""
        self._need(space)
        self._need(kind)
        return self._rows[space][kind]

    def first_rows(self):
        """The first table."""
        return self._rows

    def _told_number(self, first, second, kind):
        total = 0
        for many, row in zip(self._multiplicities, self._rows):
            total = total + many * row[first] * row[second] * row[kind]
        return total // (self.points * self._rows[0][kind])

    def number(self, first, second, kind):
        """How many thirds of two points of the kind `kind` have the kind `first` to one, `second` to the other one."""
        self._need(first)
        self._need(second)
        self._need(kind)
        return self._told_number(first, second, kind)

    def counts(self):
        """The counts of the scheme."""
        if self.most > MOST_TABLED:
            raise TooMany(MOST_TABLED)
        # No number p(i, j; k) is above v(i).
        if max(self._rows[0]) > _MOST_COUNT:
            raise TooMany(_MOST_COUNT)
        kinds = range(len(self._rows))
        return tuple([tuple([tuple([self._told_number(i, j, k) for j in kinds]) for i in kinds]) for k in kinds])

    def ball(self, radius):
        """The number of the points of a ball."""
        self._need(radius)
        return sum(self._rows[0][:radius + 1])

    def _zeros(self, radius):
        # At the eigenspace 0 the sum is the size of the ball.
        return tuple([space for space, row in enumerate(self._rows) if sum(row[:radius + 1]) == 0])

    def ball_zeros(self, radius):
        """The eigenspaces from 1 on at which the sum of the first entries is 0."""
        self._need(radius)
        return self._zeros(radius)

    def perfect_fault(self, radius):
        """What shows that there is no perfect lot with a radius, `None` if nothing does."""
        if self.points % self.ball(radius) != 0:
            return "size"
        if len(self._zeros(radius)) != radius:
            return "zeros"
        return None

    def __eq__(self, value):
        return isinstance(value, Family) and self._name == value._name and self._sizes == value._sizes

    def __str__(self):
        return f"{self._name} {self._written_sizes()}"

    def _written_sizes(self):
        return " ".join([str(size) for size in self._sizes])


def ball_poly(places, letters, radius):
    """The polynomial that has at r the sum of P(r, 0) to P(r, radius) of words."""
    _need_words(places, letters)
    if not is_between(radius, 0, places):
        raise InvalidNumber(radius)
    points = {}
    for space in range(radius + 1):
        values = [_words_value(places, letters, space, kind) for kind in range(radius + 1)]
        points[space] = (sum(values), 1)
    return fitted(points)
