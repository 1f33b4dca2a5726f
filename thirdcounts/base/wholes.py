"""Rows, tables and polynomials of integers, in which tables and polys work.

Numbers with one common bottom are added and multiplied as integers, and reduced once, at the end.
A polynomial of integers is a list, the entry at i belonging to x ** i, without zeros at its end.
"""

from math import gcd, lcm

from thirdcounts.base.numbers import as_pair, fraction

_PRIME = 101
_HALF = 50


def whole_row(row):
    """The pair of the integers that a row of numbers has over one common bottom, and of this bottom."""
    pairs = [as_pair(number) for number in row]
    common = 1
    for _, bottom in pairs:
        common = lcm(common, bottom)
    return [top * (common // bottom) for top, bottom in pairs], common


def fractions_of(wholes, bottom):
    """The tuple of the quotients of the integers by `bottom`."""
    return tuple([fraction(whole, bottom) for whole in wholes])


def row_sum(row):
    """The sum of a row of numbers, a fraction."""
    wholes, common = whole_row(row)
    return fraction(sum(wholes), common)


def divisor_of(wholes):
    """The greatest common divisor of the integers, 0 if all are 0."""
    divisor = 0
    for whole in wholes:
        divisor = gcd(divisor, whole)
    return divisor


def primitive(wholes):
    """The integers without their common divisor, with the same signs."""
    divisor = divisor_of(wholes)
    if divisor == 0:
        return list(wholes)
    return [whole // divisor for whole in wholes]


def _with_row_at(rows, place, found):
    """The rows with the row `found` exchanged for the one at `place`."""
    exchanged = list(rows)
    exchanged[place], exchanged[found] = rows[found], rows[place]
    return exchanged


def with_cleared(rows, place, column, divisor):
    """The rows with 0 in the column, but for the row at `place`.

    Each entry stays a determinant of entries of the first rows, so the division leaves no rest,
    and entries do not grow as they would by products alone.
    """
    source = rows[place]
    lead = source[column]
    cleared = []
    for index, row in enumerate(rows):
        if index == place:
            cleared.append(row)
        else:
            factor = row[column]
            cleared.append([(lead * entry - factor * low) // divisor for entry, low in zip(row, source)])
    return cleared


def eliminated(rows):
    """An echelon of rows of integers, but for its leads: they are all one integer instead of 1.

    Returns the rows that are not 0, the columns of the leads, this integer, and the sign of the
    exchanges of rows. For a square table of full rank it is the determinant, but for the sign.
    """
    left = list(rows)
    columns = []
    lead = 1
    sign = 1
    for column in range(len(rows[0])):
        place = len(columns)
        found = [index for index in range(place, len(left)) if left[index][column] != 0]
        if found:
            if found[0] != place:
                sign = -sign
            left = with_cleared(_with_row_at(left, place, found[0]), place, column, lead)
            lead = left[place][column]
            columns.append(column)
    return left[:len(columns)], columns, lead, sign


def trimmed(wholes):
    """The list without the zeros at its end."""
    size = len(wholes)
    while size > 0 and wholes[size - 1] == 0:
        size = size - 1
    return wholes[:size]


def whole_sum(one, other):
    """The sum of two polynomials of integers."""
    size = max(len(one), len(other))
    first = one + [0] * (size - len(one))
    second = other + [0] * (size - len(other))
    return trimmed([entry + further for entry, further in zip(first, second)])


def whole_scaled(wholes, factor):
    """The polynomial with each entry multiplied by an integer."""
    return trimmed([factor * entry for entry in wholes])


def whole_product(one, other):
    """The product of two polynomials of integers, of any degree."""
    entries = [0] * max(0, len(one) + len(other) - 1)
    for place, entry in enumerate(one):
        for further, factor in enumerate(other):
            entries[place + further] = entries[place + further] + entry * factor
    return trimmed(entries)


def whole_derived(wholes):
    """The derived polynomial."""
    return [index * entry for index, entry in enumerate(wholes)][1:]


def scaled_value(wholes, top, bottom):
    """The value at top / bottom, multiplied by `bottom` once for each entry but the first one."""
    value = 0
    weight = 1
    for entry in wholes[::-1]:
        value = value * top + entry * weight
        weight = weight * bottom
    return value


def whole_division(one, other):
    """Divide by a polynomial of integers that is not 0: (scale, quotient, rest).

    `one`, multiplied by the integer `scale`, which is above 0, is the product of the quotient and
    of `other`, and the rest, which has a lesser degree than `other`.
    """
    lead = other[-1]
    scale = 1
    quotient = [0] * max(0, len(one) - len(other) + 1)
    rest = list(one)
    while len(rest) >= len(other):
        place = len(rest) - len(other)
        divisor = gcd(rest[-1], lead)
        times = abs(lead) // divisor
        factor = rest[-1] // divisor if lead > 0 else -rest[-1] // divisor
        scale = scale * times
        quotient = [times * entry for entry in quotient]
        quotient[place] = factor
        moved = [0] * place + list(other)
        rest = trimmed([times * entry - factor * low for entry, low in zip(rest, moved)])
    return scale, quotient, rest


def whole_share(one, other):
    """A polynomial of the greatest degree that divides both, 0 if both are 0."""
    first, second = primitive(one), primitive(other)
    while second:
        first, second = second, primitive(whole_division(first, second)[2])
    return first


def whole_shares(one, other):
    """A triple (share, u, v), such that u times `one` plus v times `other` is the share."""
    first = (list(one), [1], [])
    second = (list(other), [], [1])
    while second[0]:
        scale, quotient, _ = whole_division(first[0], second[0])
        minus = whole_scaled(quotient, -1)
        row = [whole_sum(whole_scaled(part, scale), whole_product(minus, low)) for part, low in zip(first, second)]
        divisor = divisor_of([entry for part in row for entry in part])
        first, second = second, tuple([[entry // divisor for entry in part] for part in row])
    return first


def chain_of(wholes):
    """The chain of a polynomial that is not 0, each member but for a factor above 0."""
    chain = [primitive(wholes)]
    following = primitive(whole_derived(wholes))
    while following:
        chain.append(following)
        rest = whole_division(chain[-2], following)[2]
        following = whole_scaled(primitive(rest), -1)
    return chain


def changes_at(chain, top, bottom):
    """How often the sign changes along the values of a chain at top / bottom, `bottom` being above 0."""
    values = [scaled_value(wholes, top, bottom) for wholes in chain]
    signs = [value > 0 for value in values if value != 0]
    return len([index for index in range(1, len(signs)) if signs[index - 1] != signs[index]])


def without_zero(wholes, top, bottom):
    """The polynomial, which is not 0, divided by (bottom x - top) as often as this goes."""
    left = primitive(wholes)
    while scaled_value(left, top, bottom) == 0:
        left = primitive(whole_division(left, [-top, bottom])[1])
    return left


def times_zero(wholes, zero):
    """How many times an integer is a zero of a polynomial that is not 0."""
    return len(wholes) - len(without_zero(wholes, zero, 1))


def _zeros_bound(wholes):
    """An integer that no zero exceeds in size.

    No zero is greater in size than 2 * abs(wholes[n - i] / wholes[n]) ** (1 / i) for the i where
    this is the greatest; here each of these roots is rounded up to a power of 2.
    """
    most = 0
    length = wholes[-1].bit_length()
    for back, entry in enumerate(wholes[::-1]):
        if back > 0:
            above = entry.bit_length() - length + 1
            most = max(most, -(-above // back))
    return 1 << (most + 1)


def _zoomed(wholes, digit):
    """The polynomial at digit + _PRIME * x, without the common divisor of its entries."""
    entries = list(wholes)
    size = len(entries)
    for low in range(size - 1):
        for place in range(size - 2, low - 1, -1):
            entries[place] = entries[place] + digit * entries[place + 1]
    scaled = []
    weight = 1
    for entry in entries:
        scaled.append(entry * weight)
        weight = weight * _PRIME
    return primitive(scaled)


def _digits_of_zeros(wholes):
    """The digits, around 0, at which the polynomial is divided by _PRIME."""
    rests = trimmed([entry % _PRIME for entry in wholes])
    return [digit for digit in range(-_HALF, _HALF + 1) if scaled_value(rests, digit, 1) % _PRIME == 0]


def possible_zeros(wholes):
    """Ascending integers, each zero that is an integer among them, for a polynomial that is not 0.

    Zeros are found digit by digit, lowest first, so that entries need not be split into primes. What
    is left to find is a zero of the zoomed polynomial; as its common divisor is taken out, the
    degrees modulo _PRIME never add up to more than at the beginning, so there are never more
    beginnings of zeros than the degree.
    """
    bound = _zeros_bound(wholes)
    step = 1
    begun = [(0, primitive(wholes))]
    while step <= 2 * bound:
        longer = []
        for start, left in begun:
            for digit in _digits_of_zeros(left):
                longer.append((start + step * digit, _zoomed(left, digit)))
        begun = longer
        step = step * _PRIME
    return sorted([start for start, _ in begun])
