"""Polynomials with exact numbers, tuples with the number of x ** i at the index i."""

from thirdcounts.base.numbers import (
    as_pair, compared, divided, fraction, is_integer, is_number, need_number, number_of_text, number_text, raised
)
from thirdcounts.base.wholes import (
    chain_of, changes_at, fractions_of, possible_zeros, primitive, scaled_value, times_zero, trimmed, whole_derived,
    whole_division, whole_product, whole_row, whole_scaled, whole_share, whole_shares, whole_sum, without_zero
)
from thirdcounts.errors import InvalidOperation, InvalidPoly, ParseError, TooMany

MAX_DEGREE = 40
MAX_TEXT = 3000


def is_poly(value):
    """Whether the value is a polynomial."""
    if not isinstance(value, tuple) or len(value) > MAX_DEGREE + 1:
        return False
    if not all([is_number(entry) for entry in value]):
        return False
    return value == () or as_pair(value[-1])[0] != 0


def _need_poly(value):
    if not is_poly(value):
        raise InvalidPoly("this is no polynomial of a degree of at most 40")


def _need_polys(one, other):
    _need_poly(one)
    _need_poly(other)


def _weighted_sum(one, other, weight):
    tops, bottom = whole_row(one)
    overs, under = whole_row(other)
    total = whole_sum(whole_scaled(tops, under), whole_scaled(overs, weight * bottom))
    return fractions_of(total, bottom * under)


def poly_sum(one, other):
    """The sum of two polynomials."""
    _need_polys(one, other)
    return _weighted_sum(one, other, 1)


def poly_less(one, other):
    """The first polynomial less the second one."""
    _need_polys(one, other)
    return _weighted_sum(one, other, -1)


def poly_product(one, other):
    """The product of two polynomials."""
    _need_polys(one, other)
    if len(one) + len(other) - 2 > MAX_DEGREE:
        raise TooMany(MAX_DEGREE)
    tops, bottom = whole_row(one)
    overs, under = whole_row(other)
    return fractions_of(whole_product(tops, overs), bottom * under)


def poly_value(poly, number):
    """The value of a polynomial at a number."""
    _need_poly(poly)
    need_number(number)
    top, bottom = as_pair(number)
    wholes, common = whole_row(poly)
    return fraction(scaled_value(wholes, top, bottom), common * raised(bottom, max(0, len(poly) - 1)))


def derived(poly):
    """The derived polynomial."""
    _need_poly(poly)
    wholes, bottom = whole_row(poly)
    return fractions_of(whole_derived(wholes), bottom)


def poly_rest(one, other):
    """The pair of the quotient and the rest of the first polynomial by the second one."""
    _need_polys(one, other)
    if other == ():
        raise InvalidOperation("nothing can be divided by the polynomial 0")
    tops, bottom = whole_row(one)
    overs, under = whole_row(other)
    scale, quotient, rest = whole_division(tops, overs)
    return fractions_of(whole_scaled(quotient, under), scale * bottom), fractions_of(rest, scale * bottom)


def _with_lead_one(wholes):
    return fractions_of(wholes, wholes[-1]) if wholes else ()


def poly_share(one, other):
    """The polynomial with the lead 1 of the greatest degree that divides both, 0 if both are 0."""
    _need_polys(one, other)
    return _with_lead_one(whole_share(whole_row(one)[0], whole_row(other)[0]))


def poly_shares(one, other):
    """A pair (u, v) of polynomials for which u times `one` plus v times `other` is the share."""
    _need_polys(one, other)
    tops, bottom = whole_row(one)
    overs, under = whole_row(other)
    share, first, second = whole_shares(tops, overs)
    if not share:
        return (), ()
    lead = share[-1]
    return fractions_of(whole_scaled(first, bottom), lead), fractions_of(whole_scaled(second, under), lead)


def are_shares(one, other, value):
    """Whether the value is a pair (u, v) as `poly_shares` tells."""
    _need_polys(one, other)
    if not isinstance(value, tuple) or len(value) != 2 or not is_poly(value[0]) or not is_poly(value[1]):
        return False
    # The products can have degrees that no polynomial of the interface has.
    parts = []
    for factor, poly in zip(value, (one, other)):
        tops, bottom = whole_row(factor)
        overs, under = whole_row(poly)
        parts.append((whole_product(tops, overs), bottom * under))
    (first, bottom), (second, under) = parts
    total = whole_sum(whole_scaled(first, under), whole_scaled(second, bottom))
    return fractions_of(total, bottom * under) == poly_share(one, other)


def zeros_between(poly, low, high):
    """The number of the unlike real zeros above `low` and not above `high`."""
    _need_poly(poly)
    need_number(low)
    need_number(high)
    if poly == ():
        raise InvalidOperation("each number is a zero of the polynomial 0")
    if compared(low, high) != -1:
        raise InvalidOperation("the first bound is not below the second one")
    wholes = whole_row(poly)[0]
    bottom_pair, top_pair = as_pair(low), as_pair(high)
    at_high = 1 if scaled_value(wholes, *top_pair) == 0 else 0
    # The changes of the chain tell the zeros only between numbers that are none.
    inner = without_zero(without_zero(wholes, *bottom_pair), *top_pair)
    chain = chain_of(inner)
    return changes_at(chain, *bottom_pair) - changes_at(chain, *top_pair) + at_high


def integer_zeros(poly):
    """The ascending tuple of the pairs (z, k) of the zeros that are integers, and how many times they are."""
    _need_poly(poly)
    if poly == ():
        raise InvalidOperation("each number is a zero of the polynomial 0")
    wholes = primitive(whole_row(poly)[0])
    pairs = [(zero, times_zero(wholes, zero)) for zero in possible_zeros(wholes)]
    return tuple([(zero, times) for zero, times in pairs if times > 0])


def _whole_of_zeros(zeros):
    """A polynomial of integers with just these zeros."""
    product = [1]
    for top, bottom in [as_pair(zero) for zero in zeros]:
        product = whole_product(product, [-top, bottom])
    return product


def poly_of_zeros(zeros):
    """The product of x less each number of a tuple."""
    if not isinstance(zeros, tuple) or len(zeros) > MAX_DEGREE or not all([is_number(zero) for zero in zeros]):
        raise InvalidOperation("this is no tuple of at most 40 numbers")
    return _with_lead_one(_whole_of_zeros(zeros))


def _are_points(value):
    if not isinstance(value, dict) or not 1 <= len(value) <= MAX_DEGREE + 1:
        return False
    return all([is_integer(place) and is_number(number) for place, number in value.items()])


def fitted(points):
    """The polynomial of a degree below the number of the points that has the told values."""
    if not _are_points(points):
        raise InvalidOperation("this is no dict of 1 to 41 entries from integers to numbers")
    places = sorted(points)
    product = _whole_of_zeros(places)
    parts = [whole_division(product, [-place, 1])[1] for place in places]
    shares = []
    for place, part in zip(places, parts):
        shares.append(divided(points[place], fraction(scaled_value(part, place, 1), 1)))
    factors, bottom = whole_row(shares)
    total = []
    for part, factor in zip(parts, factors):
        total = whole_sum(total, whole_scaled(part, factor))
    return fractions_of(total, bottom)


def _term_text(size, exponent):
    """The text of a term whose number is above 0."""
    if exponent == 0:
        return number_text(size)
    letter = "x" if exponent == 1 else f"x^{exponent}"
    return letter if size == (1, 1) else f"{number_text(size)} {letter}"


def poly_text(poly):
    """The text of a polynomial, like x^2 - 1/2 x + 3."""
    _need_poly(poly)
    parts = []
    for exponent in reversed(range(len(poly))):
        top, bottom = as_pair(poly[exponent])
        if top != 0:
            sign = "-" if top < 0 else "+"
            parts.append(sign)
            parts.append(_term_text((abs(top), bottom), exponent))
    if not parts:
        return "0"
    front = "-" if parts[0] == "-" else ""
    return front + " ".join(parts[1:])


def _number_of_term(text):
    number = number_of_text(text)
    if not all([is_integer(part) for part in number]):
        raise ParseError(0)
    return number


def _factor_of_term(text):
    """The number ahead of x."""
    if text == "":
        return 1, 1
    if text == "-":
        return -1, 1
    return _number_of_term(text.removesuffix(" "))


def _exponent_of_term(text):
    """The exponent by what stands behind x."""
    if text == "":
        return 1
    for exponent in range(2, MAX_DEGREE + 1):
        if text == f"^{exponent}":
            return exponent
    raise ParseError(0)


def poly_of_text(text):
    """The polynomial with a text, whose integers have at most sixty digits."""
    if not isinstance(text, str):
        raise ParseError(None)
    if len(text) > MAX_TEXT:
        raise ParseError(0)
    entries = [(0, 1)] * (MAX_DEGREE + 1)
    for term in text.replace(" - ", " + -").split(" + "):
        head, letter, tail = term.partition("x")
        if letter == "":
            entries[0] = _number_of_term(head)
        else:
            entries[_exponent_of_term(tail)] = _factor_of_term(head)
    wholes, bottom = whole_row(entries)
    poly = fractions_of(trimmed(wholes), bottom)
    # Terms in another sequence, twice, or with a number 1 ahead of x are told by this alone.
    if poly_text(poly) != text:
        raise ParseError(0)
    return poly
