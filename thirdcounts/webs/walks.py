"""Webs: points and ties, the walks along ties, and the schemes that distances make."""

from thirdcounts.base.numbers import divided, fraction, is_between, multiplied
from thirdcounts.base.polys import poly_less, poly_product, poly_rest, poly_value
from thirdcounts.base.wholes import whole_row
from thirdcounts.errors import InvalidNumber, InvalidOperation, InvalidWeb, TooMany
from thirdcounts.pairs.schemes import Scheme, need_kinds_set, need_point, need_scheme, thirds_and_fault

MAX_POINTS = 24
MOST_STEPS = 60
MOST_DISTANCE = 10


def _are_ties(value, size):
    """Whether the value is an ascending tuple of pairs (x, y) of points with x below y."""
    if not isinstance(value, tuple):
        return False
    for tie in value:
        if not isinstance(tie, tuple) or len(tie) != 2:
            return False
        if not all([is_between(point, 0, size - 1) for point in tie]) or tie[0] >= tie[1]:
            return False
    return all([low < high for low, high in zip(value, value[1:])])


def _points_near(size, ties):
    """For each point the tuple of the points with which it has a tie."""
    near = [[] for _ in range(size)]
    for one, other in ties:
        near[one].append(other)
        near[other].append(one)
    return tuple([tuple(sorted(points)) for points in near])


def _distances_from(near, start):
    """The distance of each point from a point, `None` where there is no walk."""
    found = [None] * len(near)
    found[start] = 0
    reached = [start]
    while reached:
        following = []
        for point in reached:
            for further in near[point]:
                if found[further] is None:
                    found[further] = found[point] + 1
                    following.append(further)
        reached = following
    return found


def _walks_from(near, start, most):
    """How many walks of 0 to `most` steps lead from a point to each point, a list for each number of steps."""
    rows = [[1 if point == start else 0 for point in range(len(near))]]
    for _ in range(most):
        last = rows[-1]
        rows.append([sum([last[point] for point in points]) for points in near])
    return rows


class Web:
    """A web of so many points, by its ties."""

    def __init__(self, size, ties):
        if not is_between(size, 1, MAX_POINTS):
            raise InvalidNumber(size)
        if not _are_ties(ties, size):
            raise InvalidWeb("this is no ascending tuple of ties")
        self._ties = ties
        self._near = _points_near(size, ties)
        self._valencies = tuple([len(points) for points in self._near])
        self._joined = None not in _distances_from(self._near, 0)

    @property
    def size(self):
        """The number of the points."""
        return len(self._near)

    @property
    def ties(self):
        """The ascending tuple of the ties."""
        return self._ties

    @property
    def valencies(self):
        """The number of the ties of each point."""
        return self._valencies

    @property
    def is_regular(self):
        """Whether all points have equally many ties."""
        return min(self._valencies) == max(self._valencies)

    @property
    def is_joined(self):
        """Whether there is a walk between each two points."""
        return self._joined

    def points_near(self):
        """For each point the ascending tuple of the points with which it has a tie."""
        return self._near

    def distance(self, one, other):
        """The least number of steps between two points, `None` if there is no walk."""
        need_point(one, len(self._near))
        need_point(other, len(self._near))
        return _distances_from(self._near, one)[other]

    def walks(self, one, other, many):
        """The number of the walks of so many steps between two points."""
        need_point(one, len(self._near))
        need_point(other, len(self._near))
        if not is_between(many, 0, MOST_STEPS):
            raise InvalidNumber(many)
        return _walks_from(self._near, one, many)[many][other]

    def __eq__(self, value):
        return isinstance(value, Web) and self._near == value._near

    def __str__(self):
        return f"web of {len(self._near)} points, {len(self._ties)} ties"


def need_web(value):
    """Raise `InvalidWeb` unless the value is a web."""
    if not isinstance(value, Web):
        raise InvalidWeb("this is no web")


def _closed_walks(web, most):
    """The number of all closed walks of 0 to `most` steps."""
    near = web.points_near()
    totals = [0] * (most + 1)
    for start in range(len(near)):
        rows = _walks_from(near, start, (most + 1) // 2)
        for many in range(most + 1):
            # A closed walk is two walks from its beginning to the point in its middle.
            half = many // 2
            totals[many] = totals[many] + sum([one * other for one, other in zip(rows[half], rows[many - half])])
    return totals


def moments(web, most):
    """The tuple of the moments 0 to `most`, fractions."""
    need_web(web)
    if not is_between(most, 0, MOST_STEPS):
        raise InvalidNumber(most)
    return tuple([fraction(total, web.size) for total in _closed_walks(web, most)])


def _weighed(wholes, totals, start):
    """The sum of the entries times the totals from an index on."""
    return sum([whole * totals[start + place] for place, whole in enumerate(wholes)])


def _following(polys, squares, totals):
    """The walk polynomial that comes next: x times the last one, less multiples of the last one and of that ahead.

    The last one has the product 0 with all lesser degrees, so of x times it only two entries count.
    """
    degree = len(polys) - 1
    wholes, bottom = whole_row(polys[degree])
    square = _weighed(wholes, totals, degree)
    lower = wholes[degree - 1] * square if degree > 0 else 0
    slope = fraction(_weighed(wholes, totals, degree + 1) * bottom + lower, bottom * square)
    following = poly_product(polys[degree], (multiplied(slope, -1), 1))
    if degree == 0:
        return following
    ratio = divided(squares[degree], squares[degree - 1])
    return poly_less(following, poly_product(polys[degree - 1], (ratio,)))


def _walk_chain(web):
    """The walk polynomials, behind them the least polynomial, and the product of each walk polynomial with itself."""
    totals = _closed_walks(web, 2 * web.size)
    polys = [((1, 1),)]
    squares = [(1, 1)]
    while True:
        following = _following(polys, squares, totals)
        wholes, bottom = whole_row(following)
        square = fraction(_weighed(wholes, totals, len(polys)), bottom * web.size)
        polys.append(following)
        if square[0] == 0:
            return polys, squares
        squares.append(square)


def least_poly_of_web(web):
    """The polynomial of the least degree with the last entry 1 of whose tie table all entries are 0."""
    need_web(web)
    return _walk_chain(web)[0][-1]


def walk_polys(web):
    """The tuple of the walk polynomials."""
    need_web(web)
    return tuple(_walk_chain(web)[0][:-1])


def ones_poly(web):
    """The polynomial of the least degree of whose tie table all entries are 1, `None` if there is none."""
    need_web(web)
    if not web.is_regular or not web.is_joined:
        return None
    valency = web.valencies[0]
    others = poly_rest(_walk_chain(web)[0][-1], (-valency, 1))[0]
    return poly_product(others, (divided(web.size, poly_value(others, valency)),))


def excess(web):
    """The pair of the depth and the excess of a regular joined web."""
    need_web(web)
    if not web.is_regular or not web.is_joined:
        raise InvalidOperation("the web is not regular and joined")
    polys, squares = _walk_chain(web)
    value = poly_value(polys[-2], web.valencies[0])
    return len(squares) - 1, divided(multiplied(value, value), squares[-1])


def _distances_of(web):
    """The distances of all pairs of points, `None` where there is no walk."""
    near = web.points_near()
    return tuple([tuple(_distances_from(near, start)) for start in range(len(near))])


def mean_far(web):
    """The mean, over all points, of how many points are as far from them as the depth tells."""
    need_web(web)
    depth = len(_walk_chain(web)[1]) - 1
    return fraction(sum([row.count(depth) for row in _distances_of(web)]), web.size)


def is_distance_scheme(web):
    """Whether the web is joined and any two pairs of points with equal distances have equal thirds."""
    need_web(web)
    return web.is_joined and thirds_and_fault(_distances_of(web))[1] is None


def distance_scheme(web):
    """The scheme of the distances of a web, `None` if they are none."""
    need_web(web)
    if not web.is_joined:
        return None
    table = _distances_of(web)
    if max([max(row) for row in table]) > MOST_DISTANCE:
        raise TooMany(MOST_DISTANCE)
    if thirds_and_fault(table)[1] is not None:
        return None
    return Scheme(table)


def web_of_kinds(scheme, kinds):
    """The web with a tie of each two points whose kind is one of the told ones."""
    need_scheme(scheme)
    need_kinds_set(kinds, scheme.most)
    if scheme.size > MAX_POINTS:
        raise TooMany(MAX_POINTS)
    points = range(scheme.size)
    table = scheme.table
    return Web(scheme.size, tuple([(x, y) for x in points for y in points if x < y and table[x][y] in kinds]))
