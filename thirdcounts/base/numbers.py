"""Exact numbers: integers, and fractions as pairs (top, bottom)."""

from math import comb, gcd, isqrt

from thirdcounts.errors import InvalidNumber, InvalidOperation, ParseError

MAX_NAME = 8
MAX_RAISED = 1000
MAX_CHOSEN = 1000
MAX_TEXT = 400

_TOO_LONG = 10 ** 60


def is_whole(value):
    """Whether the value is an integer of any length."""
    return isinstance(value, int) and not isinstance(value, bool)


def is_between(value, low, high):
    """Whether the value is an integer from `low` to `high`."""
    return is_whole(value) and low <= value <= high


def is_integer(value):
    """Whether the value is an integer of at most sixty digits."""
    return is_whole(value) and -_TOO_LONG < value < _TOO_LONG


def is_name(value):
    """Whether the value is a string of one to eight letters from a to z."""
    if not isinstance(value, str) or not 1 <= len(value) <= MAX_NAME:
        return False
    return all(["a" <= letter <= "z" for letter in value])


def is_fraction(value):
    """Whether the value is a pair (top, bottom) without a common divisor, the bottom at least 1."""
    if not isinstance(value, tuple) or len(value) != 2:
        return False
    top, bottom = value
    return is_whole(top) and is_whole(bottom) and bottom >= 1 and gcd(top, bottom) == 1


def is_number(value):
    """Whether the value is an integer of at most sixty digits, or a fraction."""
    return is_integer(value) or is_fraction(value)


def need_number(value):
    """Raise `InvalidNumber` unless the value is a number."""
    if not is_number(value):
        raise InvalidNumber(value)


def as_pair(number):
    """The fraction that is the same number as a valid one."""
    if isinstance(number, tuple):
        return number
    return number, 1


def fraction(top, bottom):
    """The fraction that is the quotient of two integers of any length."""
    if not is_whole(top):
        raise InvalidNumber(top)
    if not is_whole(bottom) or bottom == 0:
        raise InvalidNumber(bottom)
    divisor = gcd(top, bottom)
    if bottom < 0:
        divisor = -divisor
    return top // divisor, bottom // divisor


def _parts(one, other):
    """The tops and bottoms of two numbers, four integers; `InvalidNumber` for the first one that is none."""
    need_number(one)
    need_number(other)
    return as_pair(one) + as_pair(other)


def added(one, other):
    """The sum of two numbers."""
    top, bottom, over, under = _parts(one, other)
    return fraction(top * under + over * bottom, bottom * under)


def less(one, other):
    """The first number less the second one."""
    top, bottom, over, under = _parts(one, other)
    return fraction(top * under - over * bottom, bottom * under)


def multiplied(one, other):
    """The product of two numbers."""
    top, bottom, over, under = _parts(one, other)
    return fraction(top * over, bottom * under)


def divided(one, other):
    """The quotient of two numbers."""
    top, bottom, over, under = _parts(one, other)
    if over == 0:
        raise InvalidOperation("nothing can be divided by 0")
    return fraction(top * under, bottom * over)


def compared(one, other):
    """-1, 0 or 1, as the first number is below, equal to or above the second one."""
    top = less(one, other)[0]
    if top < 0:
        return -1
    if top > 0:
        return 1
    return 0


def raised(whole, many):
    """An integer, multiplied by itself `many` times, `many` at least 0."""
    product = 1
    square = whole
    left = many
    while left > 0:
        if left % 2 == 1:
            product = product * square
        left = left // 2
        if left > 0:
            square = square * square
    return product


def power_of(number, many):
    """The power of a number with an exponent from -1000 to 1000."""
    need_number(number)
    if not is_between(many, -MAX_RAISED, MAX_RAISED):
        raise InvalidNumber(many)
    top, bottom = as_pair(number)
    if many >= 0:
        return raised(top, many), raised(bottom, many)
    if top == 0:
        raise InvalidOperation("0 has no power with an exponent below 0")
    if top < 0:
        return raised(-bottom, -many), raised(-top, -many)
    return raised(bottom, -many), raised(top, -many)


def root_of(number):
    """The number from 0 on whose square the number is, `None` if there is none."""
    need_number(number)
    top, bottom = as_pair(number)
    if top < 0:
        return None
    over, under = isqrt(top), isqrt(bottom)
    if over * over != top or under * under != bottom:
        return None
    return over, under


def floor_of(number):
    """The greatest integer that is not above the number."""
    need_number(number)
    top, bottom = as_pair(number)
    return top // bottom


def factorial(number):
    """The product of the integers from 1 to `number`."""
    if not is_between(number, 0, MAX_CHOSEN):
        raise InvalidNumber(number)
    product = 1
    for factor in range(2, number + 1):
        product = product * factor
    return product


def binomial(top, low):
    """In how many ways `low` of `top` things can be chosen."""
    if not is_between(top, 0, MAX_CHOSEN):
        raise InvalidNumber(top)
    if not is_between(low, 0, MAX_CHOSEN):
        raise InvalidNumber(low)
    return comb(top, low)


def number_text(number):
    """The text of a number, like -3/2 or 5."""
    need_number(number)
    top, bottom = as_pair(number)
    if bottom == 1:
        return f"{top}"
    return f"{top}/{bottom}"


def _digits_only(text):
    # Python's own isdigit and int take digits of other scripts, too.
    return text.isascii() and text.isdigit()


def number_of_text(text):
    """The fraction with a text, the inverse of `number_text`."""
    if not isinstance(text, str) or len(text) > MAX_TEXT:
        raise ParseError(0)
    over, slash, under = text.removeprefix("-").partition("/")
    if slash == "":
        under = "1"
    if not _digits_only(over) or not _digits_only(under) or int(under) == 0:
        raise ParseError(0)
    size = fraction(int(over), int(under))
    number = multiplied(size, -1) if text.startswith("-") else size
    # Only this tells 4/2, 3/1, 007 and -0 from the one text that each number has.
    if number_text(number) != text:
        raise ParseError(0)
    return number
