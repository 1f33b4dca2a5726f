"""Webs of two kinds, the tuples of numbers that they have, and switching."""

from math import isqrt

from thirdcounts.base.numbers import is_between
from thirdcounts.errors import InvalidLot, InvalidNumber, InvalidOperation, Refused
from thirdcounts.pairs.schemes import Scheme, is_ascending
from thirdcounts.webs.walks import Web, need_web

MOST_TUPLE = 200
MOST_LISTED = 100


def _need_tuple(size, ties, near, far):
    for entry in (size, ties, near, far):
        if not is_between(entry, 0, MOST_TUPLE):
            raise InvalidNumber(entry)


def _left(size, ties, near, far):
    return size, size - ties - 1, size - 2 - 2 * ties + far, size - 2 * ties + near


def _is_in_range(size, ties, near, far):
    if not 1 <= ties <= size - 2 or near > ties - 1 or far > ties:
        return False
    return min(_left(size, ties, near, far)) >= 0


def _square_and_excess(size, ties, near, far):
    """The numbers D and a of the conditions."""
    gap = near - far
    return gap * gap + 4 * (ties - far), 2 * ties + (size - 1) * gap


def _is_without_values(size, ties, near, far):
    """Whether the eigenvalues beside the valency are no integers, and have equal multiplicities."""
    square, over = _square_and_excess(size, ties, near, far)
    return over == 0 and isqrt(square) * isqrt(square) != square


def _is_sum_of_squares(number):
    rests = [number - one * one for one in range(isqrt(number) + 1)]
    return any([isqrt(rest) * isqrt(rest) == rest for rest in rests])


def _values_of(size, ties, near, far):
    """The pairs of both eigenvalues and of their multiplicities, `None` unless all are integers as they must be."""
    square, over = _square_and_excess(size, ties, near, far)
    root = isqrt(square)
    if root < 1 or root * root != square or over % root != 0:
        return None
    first, second = size - 1 - over // root, size - 1 + over // root
    if first % 2 != 0 or first < 2 or second < 2:
        return None
    gap = near - far
    return ((gap + root) // 2, first // 2), ((gap - root) // 2, second // 2)


def _has_krein_fault(ties, one, other):
    """Whether a Krein number is below 0, for the eigenvalues beside the valency."""
    if (one + 1) * (ties + one + 2 * one * other) > (ties + one) * (other + 1) * (other + 1):
        return True
    return (other + 1) * (ties + other + 2 * one * other) > (ties + other) * (one + 1) * (one + 1)


def _fault_of_values(size, ties, near, far):
    """The fault of a tuple that can have one of the last three only, `None` if it has none."""
    values = _values_of(size, ties, near, far)
    if values is None:
        return "values"
    (one, first), (other, second) = values
    if _has_krein_fault(ties, one, other):
        return "krein"
    if far not in (0, ties) and 2 * size > min(first * (first + 3), second * (second + 3)):
        return "absolute"
    return None


def _fault_of(size, ties, near, far):
    """The fault of a tuple, `None` if it has none."""
    if not _is_in_range(size, ties, near, far):
        return "range"
    if ties * (ties - near - 1) != (size - ties - 1) * far:
        return "count"
    if size * ties % 2 != 0 or size * ties * near % 6 != 0:
        return "ties"
    if _is_without_values(size, ties, near, far):
        return None if _is_sum_of_squares(size) else "squares"
    return _fault_of_values(size, ties, near, far)


def tuple_fault(size, ties, near, far):
    """The first condition that a tuple fails, `None` if it fails none."""
    _need_tuple(size, ties, near, far)
    return _fault_of(size, ties, near, far)


def is_half(size, ties, near, far):
    """Whether the tuple has no fault, and eigenvalues that are no integers."""
    _need_tuple(size, ties, near, far)
    return _fault_of(size, ties, near, far) is None and _is_without_values(size, ties, near, far)


def left_tuple(size, ties, near, far):
    """The tuple of the webs that have just the other ties."""
    _need_tuple(size, ties, near, far)
    if not _is_in_range(size, ties, near, far):
        raise InvalidOperation("the tuple is not in range")
    return _left(size, ties, near, far)


def tuple_values(size, ties, near, far):
    """The pairs of both eigenvalues beside the valency and of their multiplicities."""
    _need_tuple(size, ties, near, far)
    fault = _fault_of(size, ties, near, far)
    if fault is not None:
        raise Refused((fault,))
    if _is_without_values(size, ties, near, far):
        raise Refused(("half",))
    return _values_of(size, ties, near, far)


def _possible_far(size, ties, near):
    """The numbers of points tied to two points without a tie that the condition "count" leaves, at most one."""
    top, bottom = ties * (ties - near - 1), size - ties - 1
    return [top // bottom] if top % bottom == 0 else []


def tuples(most):
    """The ascending tuple of all tuples without a fault of at most so many points."""
    if not is_between(most, 0, MOST_LISTED):
        raise InvalidNumber(most)
    found = []
    for size in range(most + 1):
        for ties in range(1, size - 1):
            for near in range(ties):
                for far in _possible_far(size, ties, near):
                    if _fault_of(size, ties, near, far) is None:
                        found.append((size, ties, near, far))
    return tuple(found)


def _marks_of(web):
    """For each point the list that has 1 at its ties, and 0 elsewhere."""
    return [[1 if point in points else 0 for point in range(web.size)] for points in web.points_near()]


def _common_of(web, tied):
    """The unlike numbers of points that are tied to two points with a tie, or without one, ascending."""
    marks = _marks_of(web)
    pairs = [(row, marks[other]) for one, row in enumerate(marks) for other in range(one) if row[other] == tied]
    return sorted({sum([low * high for low, high in zip(*pair)]) for pair in pairs})


def _tuple_of(web):
    near, far = _common_of(web, 1), _common_of(web, 0)
    if not web.is_regular or len(near) != 1 or len(far) != 1:
        return None
    return web.size, web.valencies[0], near[0], far[0]


def tuple_of_web(web):
    """The tuple of a web of two kinds, `None` for other webs."""
    need_web(web)
    return _tuple_of(web)


def two_scheme(web):
    """The scheme with the kind 1 for ties and 2 for all other pairs of unlike points."""
    need_web(web)
    if _tuple_of(web) is None:
        raise InvalidOperation("the web is not of two kinds")
    table = [[2 - mark for mark in row] for row in _marks_of(web)]
    return Scheme(tuple([tuple(row[:at] + [0] + row[at + 1:]) for at, row in enumerate(table)]))


def _web_of_marks(marks):
    size = len(marks)
    return Web(size, tuple([(x, y) for x in range(size) for y in range(x + 1, size) if marks[x][y] == 1]))


def _switched(web, points):
    inside = [point in points for point in range(web.size)]
    marks = []
    for here, row in zip(inside, _marks_of(web)):
        marks.append([1 - mark if here != there else mark for there, mark in zip(inside, row)])
    return _web_of_marks(marks)


def switched(web, points):
    """The web, switched by some points."""
    need_web(web)
    if not is_ascending(points, 0, web.size - 1):
        raise InvalidLot("this is no ascending tuple of points")
    return _switched(web, points)


def _odd_triples_of(web):
    marks = _marks_of(web)
    found = []
    for one, row in enumerate(marks):
        for two in range(one + 1, len(marks)):
            for three in range(two + 1, len(marks)):
                if (row[two] + row[three] + marks[two][three]) % 2 == 1:
                    found.append((one, two, three))
    return found


def odd_triples(web):
    """The ascending tuple of all triples of points with one or three ties."""
    need_web(web)
    return tuple(_odd_triples_of(web))


def odd_number(web):
    """The number of the odd triples of each pair of points, `None` if pairs have unlike numbers, or there are none."""
    need_web(web)
    numbers = {(one, other): 0 for other in range(web.size) for one in range(other)}
    for one, two, three in _odd_triples_of(web):
        for pair in ((one, two), (one, three), (two, three)):
            numbers[pair] = numbers[pair] + 1
    found = sorted(set(list(numbers.values())))
    return found[0] if len(found) == 1 else None


def _need_equal_sizes(one, other):
    need_web(one)
    need_web(other)
    if one.size != other.size:
        raise InvalidOperation("the webs have not equally many points")


def switching_points(one, other):
    """Points by which the first web is switched to the second one, `None` if there are none."""
    _need_equal_sizes(one, other)
    # Points and all other points switch alike, so 0 can be left out; its own ties tell all others then.
    first, second = _marks_of(one)[0], _marks_of(other)[0]
    points = tuple([point for point in range(one.size) if first[point] != second[point]])
    return points if _switched(one, points) == other else None


def is_switching(one, other, value):
    """Whether the value is a tuple of points by which the first web is switched to the second one."""
    _need_equal_sizes(one, other)
    return is_ascending(value, 0, one.size - 1) and _switched(one, value) == other


def signs_table(web):
    """The table with -1 at ties, 1 at all other pairs of unlike points, and 0 elsewhere, fractions."""
    need_web(web)
    signs = [[(1 - 2 * mark, 1) for mark in row] for row in _marks_of(web)]
    return tuple([tuple(row[:at] + [(0, 1)] + row[at + 1:]) for at, row in enumerate(signs)])
