"""Ladders of kinds and of eigenspaces, and the arrays that they have."""

from thirdcounts.base.numbers import is_between
from thirdcounts.base.polys import poly_less, poly_product
from thirdcounts.eigen.krein import told_krein_table
from thirdcounts.errors import InvalidOperation, TooMany
from thirdcounts.pairs.counts import need_counts, need_order
from thirdcounts.pairs.schemes import is_order

MOST_ENTRY = 10 ** 6
MOST_COUNT = 10 ** 12

_MOST_STEPS = 10


def _are_something(table):
    """Whether each number of a table of integers or of fractions is another one than 0."""
    return [[[entry not in (0, (0, 1)) for entry in row] for row in square] for square in table]


def _is_ladder(marks, order):
    """Whether an order is a ladder, by which numbers p(i, j; k) are not 0."""
    for low, one in enumerate(order):
        for high, other in enumerate(order):
            steps = abs(low - high)
            if steps > 0 and marks[other][order[1]][one] != (steps == 1):
                return False
    return True


def _ladder_from(marks, second):
    """The ladder that begins with 0 and `second`; what is begun of it, where there is none.

    A number p(e, i; k) is 0 just where p(e, k; i) is, so an order that never has two ways up is a ladder.
    """
    order = [0, second]
    while len(order) < len(marks):
        above = [kind for kind, square in enumerate(marks) if kind not in order and square[second][order[-1]]]
        if len(above) != 1:
            return order
        order.append(above[0])
    return order


def _all_ladders(marks):
    if len(marks) == 1:
        return ((0,),)
    orders = [_ladder_from(marks, second) for second in range(1, len(marks))]
    return tuple([tuple(order) for order in orders if len(order) == len(marks)])


def is_kind_ladder(counts, value):
    """Whether the value is an order that is a ladder of kinds."""
    need_counts(counts)
    return is_order(value, len(counts) - 1) and _is_ladder(_are_something(counts), value)


def is_space_ladder(counts, value):
    """Whether the value is an order that is a ladder of spaces."""
    need_counts(counts)
    marks = _are_something(told_krein_table(counts))
    return is_order(value, len(counts) - 1) and _is_ladder(marks, value)


def kind_ladders(counts):
    """The ascending tuple of all ladders of kinds."""
    need_counts(counts)
    return _all_ladders(_are_something(counts))


def space_ladders(counts):
    """The ascending tuple of all ladders of spaces."""
    need_counts(counts)
    return _all_ladders(_are_something(told_krein_table(counts)))


def _array_by(table, order):
    """The array of an order, by numbers p(i, j; k)."""
    if not _is_ladder(_are_something(table), order):
        raise InvalidOperation("the order is no ladder")
    steps = list(zip(order, order[1:]))
    down = [table[low][order[1]][high] for low, high in steps]
    up = [table[high][order[1]][low] for low, high in steps]
    return tuple(down), tuple(up)


def array_of(counts, order):
    """The array of a ladder of kinds."""
    need_counts(counts)
    need_order(counts, order)
    return _array_by(counts, order)


def space_array(counts, order):
    """The space array of a ladder of spaces, fractions."""
    need_counts(counts)
    need_order(counts, order)
    return _array_by(told_krein_table(counts), order)


def is_array(value):
    """Whether the value is a pair of tuples of equally many integers, at most ten, each from 1 to 10 ** 6."""
    if not isinstance(value, tuple) or len(value) != 2:
        return False
    for part in value:
        if not isinstance(part, tuple) or len(part) > _MOST_STEPS:
            return False
        if not all([is_between(entry, 1, MOST_ENTRY) for entry in part]):
            return False
    return len(value[0]) == len(value[1])


def _need_array(value):
    if not is_array(value):
        raise InvalidOperation("this is no pair of tuples of equally many integers")


def _level_rests(array):
    """The integers a_0 to a_d of an array."""
    first, second = array
    if not first:
        return [0]
    return [first[0] - low - high for low, high in zip((*first, 0), (0, *second))]


def _has_wrong_steps(array):
    first, second = array
    if len(first) > 1 and first[1] == first[0]:
        return True
    rises = any([high > low for low, high in zip(first, first[1:])])
    return rises or any([high < low for low, high in zip(second, second[1:])])


def _told_valencies(array):
    """The numbers v_0 to v_d of an array, `None` if one of them is no integer."""
    valencies = [1]
    for low, high in zip(*array):
        top = valencies[-1] * low
        if top % high != 0:
            return None
        valencies.append(top // high)
    return valencies


def _one_step(array, row):
    """What f_1 makes of a row that tells how many times it has each of f_0 to f_d, up to multiples of f_(d + 1)."""
    first, second = array
    rests = _level_rests(array)
    stepped = [rest * times for rest, times in zip(rests, row)]
    for low, (down, up) in enumerate(zip(first, second)):
        stepped[low] = stepped[low] + down * row[low + 1]
        stepped[low + 1] = stepped[low + 1] + up * row[low]
    return stepped


def _numbers_by(array):
    """The numbers p(i, j; k) of an array, at [i][j][k], `None` if one of them is no integer or is below 0."""
    first, second = array
    rests = _level_rests(array)
    size = len(rests)
    table = [[[1 if kind == other else 0 for kind in range(size)] for other in range(size)]]
    for level, up in enumerate(second):
        rows = []
        for other in range(size):
            last = table[level][other]
            tops = [high - rests[level] * low for high, low in zip(_one_step(array, last), last)]
            if level > 0:
                tops = [top - first[level - 1] * low for top, low in zip(tops, table[level - 1][other])]
            if not all([top >= 0 and top % up == 0 for top in tops]):
                return None
            rows.append([top // up for top in tops])
        table.append(rows)
    return table


def _fault_of(array):
    """The first fault of an array and the numbers p(i, j; k), at [i][j][k], one of them `None`."""
    second = array[1]
    if second and second[0] != 1:
        return "first", None
    if _has_wrong_steps(array):
        return "steps", None
    if min(_level_rests(array)) < 0:
        return "rest", None
    if _told_valencies(array) is None:
        return "valency", None
    numbers = _numbers_by(array)
    if numbers is None:
        return "thirds", None
    return None, numbers


def array_fault(array):
    """The first fault of an array, `None` if it has none."""
    _need_array(array)
    return _fault_of(array)[0]


def ladder_polys(array):
    """The tuple of the ladder polynomials f_0 to f_(d + 1)."""
    _need_array(array)
    first, second = array
    rests = _level_rests(array)
    polys = [((1, 1),), ((0, 1), (1, 1))]
    for level in range(1, len(rests)):
        up = second[level] if level < len(second) else 1
        risen = poly_product(polys[level], (-rests[level], 1))
        total = poly_less(risen, poly_product(polys[level - 1], (first[level - 1],)))
        polys.append(poly_product(total, ((1, up),)))
    return tuple(polys)


def counts_of_array(array):
    """The counts that an array without a fault tells."""
    _need_array(array)
    fault, numbers = _fault_of(array)
    if fault is not None:
        raise InvalidOperation("the array has a fault")
    if max([entry for rows in numbers for row in rows for entry in row]) > MOST_COUNT:
        raise TooMany(MOST_COUNT)
    kinds = range(len(numbers))
    return tuple([tuple([tuple([numbers[i][j][k] for j in kinds]) for i in kinds]) for k in kinds])
