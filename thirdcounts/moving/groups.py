"""Moves of points that schemes keep, schemes that come of moves, and schemes of the elements of groups."""

from thirdcounts.base.numbers import is_between
from thirdcounts.errors import InvalidLot, InvalidMoves, InvalidOperation, InvalidParting, Refused, TooMany
from thirdcounts.pairs.schemes import (
    MAX_KINDS, MAX_POINTS, Scheme, is_ascending, is_parting_of, is_sequence, need_point, need_scheme, thirds_and_fault
)

MAX_MAKERS = 20
MAX_SEARCHED = 16

_MOST_MODULI = 5
# Twice the cosine of each sixth, and of each fourth, of a full turn.
_SIXTHS = (2, 1, -1, -2, -1, 1)
_FOURTHS = (2, 0, -2, 0)


def is_makers(value):
    """Whether the value is makers."""
    if not isinstance(value, tuple) or not 1 <= len(value) <= MAX_MAKERS:
        return False
    if not isinstance(value[0], tuple) or not 1 <= len(value[0]) <= MAX_POINTS:
        return False
    return all([is_sequence(move, len(value[0])) for move in value])


def _joined_pairs(makers, size):
    """At each point the list that has at each point the number of the joined pairs to which their pair belongs.

    As each move is undone by some repeats of it, only the makers themselves are needed.
    """
    names = [[None] * size for _ in range(size)]
    many = 0
    for begun in range(size * size):
        if names[begun // size][begun % size] is None:
            names[begun // size][begun % size] = many
            waiting = [(begun // size, begun % size)]
            while waiting:
                one, other = waiting.pop()
                for move in makers:
                    left, right = move[one], move[other]
                    if names[left][right] is None:
                        names[left][right] = many
                        waiting.append((left, right))
            many = many + 1
    return names


def scheme_of_moves(makers):
    """The scheme whose kinds are the joined pairs."""
    if not is_makers(makers):
        raise InvalidMoves("these are no makers")
    size = len(makers[0])
    names = _joined_pairs(makers, size)
    for point in range(size):
        if names[point][point] != names[0][0]:
            raise Refused(("points", point))
    for point in range(size):
        if names[0][point] != names[point][0]:
            raise Refused(("turned", point))
    # Pairs are named by their first ones, and each of them is joined with one of the point 0.
    if max(names[0]) > MAX_KINDS:
        raise TooMany(MAX_KINDS)
    return Scheme(tuple([tuple(row) for row in names]))


def _keeps(table, move):
    for row, point in zip(table, move):
        moved = table[point]
        if not all([kind == moved[other] for kind, other in zip(row, move)]):
            return False
    return True


def is_kept(scheme, value):
    """Whether the value is a move that the scheme keeps."""
    need_scheme(scheme)
    return is_sequence(value, scheme.size) and _keeps(scheme.table, value)


def _is_pair(value, size):
    if not isinstance(value, tuple) or len(value) != 2:
        return False
    return all([is_between(point, 0, size - 1) for point in value])


def _need_few_points(scheme):
    if scheme.size > MAX_SEARCHED:
        raise TooMany(MAX_SEARCHED)


def _narrowed(table, places, point, place):
    """The places to which the points can still be led once a point is led to a place, `None` if a point has none."""
    found = []
    for kind, left in zip(table[point], places):
        fitting = [further for further in left if table[place][further] == kind]
        if not fitting:
            return None
        found.append(fitting)
    return found


def _move_from(table, places, done):
    """A kept move that leads each point to one of its places, `None` if there is none; `done` has points with one."""
    open_points = [(len(left), point) for point, left in enumerate(places) if point not in done]
    if not open_points:
        return tuple([left[0] for left in places])
    # The point with the fewest places is led first, so that wrong beginnings end early.
    point = min(open_points)[1]
    for place in places[point]:
        further = _narrowed(table, places, point, place)
        if further is not None:
            found = _move_from(table, further, (*done, point))
            if found is not None:
                return found
    return None


def _kept_move(table, one, other):
    """A kept move that leads one pair to the other one, `None` if there is none."""
    points = list(range(len(table)))
    places = [points for _ in points]
    for point, place in zip(one, other):
        places = _narrowed(table, places, point, place)
        if places is None:
            return None
    return _move_from(table, places, one)


def kept_move(scheme, one, other):
    """A kept move that leads one pair of points to the other one, `None` if there is none."""
    need_scheme(scheme)
    if not _is_pair(one, scheme.size) or not _is_pair(other, scheme.size):
        raise InvalidOperation("these are no two pairs of points")
    _need_few_points(scheme)
    return _kept_move(scheme.table, one, other)


def _unlike_pairs(table, names):
    """Two pairs of one kind with unlike names, `None` if all pairs of each kind have one name."""
    firsts = {}
    for one, row in enumerate(table):
        for other, kind in enumerate(row):
            if kind not in firsts:
                firsts[kind] = (one, other)
            left, right = firsts[kind]
            if names[left][right] != names[one][other]:
                return (left, right), (one, other)
    return None


def _without_idle_makers(table, makers):
    """Those of the makers without which fewer pairs are joined.

    None of them is a product of the others, and so many moves of 16 points are at most 15.
    """
    kept = list(makers)
    for move in makers:
        rest = [maker for maker in kept if maker != move]
        if rest and _unlike_pairs(table, _joined_pairs(rest, len(table))) is None:
            kept = rest
    return tuple(kept)


def moves_paper(scheme):
    """A paper that shows whether the scheme comes of moves."""
    need_scheme(scheme)
    _need_few_points(scheme)
    table = scheme.table
    makers = [tuple(range(scheme.size))]
    while True:
        pairs = _unlike_pairs(table, _joined_pairs(makers, scheme.size))
        if pairs is None:
            return "moves", _without_idle_makers(table, makers)
        move = _kept_move(table, *pairs)
        if move is None:
            return ("pairs",) + pairs[0] + pairs[1]
        makers.append(move)


def is_moves_paper(scheme, value):
    """Whether the value is a paper for the scheme, or against it."""
    need_scheme(scheme)
    _need_few_points(scheme)
    if not isinstance(value, tuple) or len(value) not in (2, 5):
        return False
    table = scheme.table
    if len(value) == 2:
        makers = value[1]
        if value[0] != "moves" or not is_makers(makers) or len(makers[0]) != scheme.size:
            return False
        if not all([_keeps(table, move) for move in makers]):
            return False
        return _unlike_pairs(table, _joined_pairs(makers, scheme.size)) is None
    one, other = value[1:3], value[3:]
    if value[0] != "pairs" or not _is_pair(one, scheme.size) or not _is_pair(other, scheme.size):
        return False
    return table[one[0]][one[1]] == table[other[0]][other[1]] and _kept_move(table, one, other) is None


def _is_moduli(value):
    if not isinstance(value, tuple) or not 1 <= len(value) <= _MOST_MODULI:
        return False
    if not all([is_between(modulus, 2, 6) and modulus != 5 for modulus in value]):
        return False
    return not (4 in value and (3 in value or 6 in value)) and _size_of(value) <= MAX_POINTS


def _need_moduli(value):
    if not _is_moduli(value):
        raise InvalidOperation("these are no moduli")


def _size_of(moduli):
    size = 1
    for modulus in moduli:
        size = size * modulus
    return size


def _all_members(moduli):
    """The ascending list of all tuples x with 0 <= x[i] < moduli[i]."""
    found = [()]
    for modulus in moduli:
        found = [(*begun, entry) for begun in found for entry in range(modulus)]
    return found


def _point_of(moduli, member):
    """The number of the tuple that a tuple of integers is modulo the moduli."""
    point = 0
    for entry, modulus in zip(member, moduli):
        point = point * modulus + entry % modulus
    return point


def group_elements(moduli):
    """The ascending tuple of all elements."""
    _need_moduli(moduli)
    return tuple(_all_members(moduli))


def group_sum(moduli, one, other):
    """The point of the sum of the elements of two points."""
    _need_moduli(moduli)
    need_point(one, _size_of(moduli))
    need_point(other, _size_of(moduli))
    members = _all_members(moduli)
    return _point_of(moduli, [left + right for left, right in zip(members[one], members[other])])


def _opposites(moduli):
    """The tuple of the points of the opposites of all elements."""
    return tuple([_point_of(moduli, [-entry for entry in member]) for member in _all_members(moduli)])


def _double_cosines(moduli):
    """At each point the list, over all points, of twice the cosine of the angle of both elements."""
    table = _FOURTHS if 4 in moduli else _SIXTHS
    steps = [len(table) // modulus for modulus in moduli]
    members = _all_members(moduli)
    found = []
    for one in members:
        parts = [entry * step for entry, step in zip(one, steps)]
        turns = [sum([part * entry for part, entry in zip(parts, other)]) for other in members]
        found.append([table[turn % len(table)] for turn in turns])
    return found


def lot_sum(moduli, lot, point):
    """The sum of a lot, with the opposites of its elements, at the element of a point."""
    _need_moduli(moduli)
    if not is_ascending(lot, 0, _size_of(moduli) - 1) or len(lot) == 0:
        raise InvalidLot("this is no ascending tuple of points")
    need_point(point, _size_of(moduli))
    opposites = _opposites(moduli)
    for member in lot:
        if opposites[member] not in lot:
            raise Refused(("opposite", member))
    row = _double_cosines(moduli)[point]
    return sum([row[member] for member in lot]) // 2


def _need_turning(moduli, value):
    size = _size_of(moduli)
    if not is_parting_of(value, 1, size - 1) or len(value) > MAX_KINDS:
        raise InvalidParting("this is no parting of 1 to 10 lots")
    opposites = _opposites(moduli)
    for lot in value:
        if not all([opposites[member] in lot for member in lot]):
            raise InvalidParting("a lot has not the opposites of its elements")


def group_scheme(moduli, parting):
    """The scheme with the number of the lot of y - x at (x, y)."""
    _need_moduli(moduli)
    _need_turning(moduli, parting)
    names = {member: index + 1 for index, lot in enumerate(parting) for member in lot}
    names[0] = 0
    members = _all_members(moduli)
    rows = []
    for one in members:
        points = [_point_of(moduli, [high - low for low, high in zip(one, other)]) for other in members]
        rows.append(tuple([names[point] for point in points]))
    if thirds_and_fault(rows)[1] is not None:
        raise Refused(("scheme",))
    return Scheme(tuple(rows))


def _rows_of(moduli, parting):
    """The tuple of the rows of all elements, in their sequence."""
    rows = []
    for cosines in _double_cosines(moduli):
        sums = [sum([cosines[member] for member in lot]) // 2 for lot in parting]
        rows.append((1, *sums))
    return rows


def dual_parting(moduli, parting):
    """The parting of the points from 1 on whose lots have equal rows."""
    _need_moduli(moduli)
    _need_turning(moduli, parting)
    found = {}
    for point, row in enumerate(_rows_of(moduli, parting)):
        if point > 0:
            found.setdefault(row, []).append(point)
    return tuple([tuple(lot) for lot in found.values()])


def group_rows(moduli, parting):
    """The tuple of the unlike rows of all elements, descending."""
    _need_moduli(moduli)
    _need_turning(moduli, parting)
    unlike = sorted(set(_rows_of(moduli, parting)))
    return tuple(unlike[::-1])
