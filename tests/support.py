"""What several test files use: wrong values, and the examples of the document."""

from fractions import Fraction

from thirdcounts.base.numbers import added
from thirdcounts.errors import InvalidNumber, Refused

SIXTY = 10 ** 60 - 1
LONG = 10 ** 60


def nested(depth, kind):
    """A value that is nested so deep, of tuples, lists or dicts."""
    value = 1
    for _ in range(depth):
        value = {"tuple": (value,), "list": [value], "dict": {"a": value}}[kind]
    return value


# None of these is a number, a row, a table, a polynomial, or an argument of any other kind but a text or a dict.
NO_VALUES = [
    True, False, None, LONG, -LONG, 10 ** 99, -(10 ** 100 - 1),
    [], [1], [1, 2], [[1, 2], [3, 4]], [(1, 2), (3, 4)], ["x"], [True, None],
    nested(8, "tuple"), nested(8, "list"), nested(8, "dict"), ([1, 2], {1: [2]}), ({}, {}), ("1", "2"), (None, None),
    (True, True), ((), ()), (((),),), ("", 1), (1, ""), (1, [2]), (1, {2: 3}), (1, None), (True, 2), (1, True), (False, 1),
    InvalidNumber(1), Refused(("determinant",)), (InvalidNumber(1), 1), added, InvalidNumber,
]
TEXTS = ["", " ", "x", "1", "0", "-", "1/2", "a" * 4000, "1" * 4000, "~}|{", "\n\t\x00"]
DICTS = [{}, {"a": 1}, {(1, 2): [3]}, {None: None}, {0: {0: {}}}]

# Tuples that are no number, though some of them look like fractions.
NO_FRACTIONS = [
    (), (1,), (1, 2, 3), (2, 4), (0, 2), (0, 0), (1, 0), (1, -1), (-1, -2), (0, -1), (10, 5), (LONG * 2, 2), ((1, 2), 1),
    ((1, 2), (1, 3)), ((1, 1),),
]
NO_NUMBERS = NO_VALUES + TEXTS + DICTS + NO_FRACTIONS

NO_ROWS = NO_VALUES + TEXTS + DICTS + [
    0, 1, -1, (), ((2, 4),), (1, LONG), (1, True), (1, (1, 0)), ((1, 2, 3),), (1,) * 41, ((1,), (2,)), ("1",), (1, "a"),
]
NO_TABLES = NO_VALUES + TEXTS + DICTS + [
    0, 1, -1, (), ((),), (1, 2), (1, 2, 3), ((1, 2), (3,)), ((1,), (2, 3)), ((1,), ()), ((True,),), ((LONG,),), ([1],),
    [(1,)], (("1",),), (((2, 4),),), (((1, 0),),), (((1, 2, 3),),), ((1, 2), [3, 4]), ((1,), (None,)), ((1,),) * 41,
    ((1,) * 41,), (((1,),),), (((1, 2),), 1),
]
NO_POLYS = [value for value in NO_VALUES if value != ()] + TEXTS + DICTS + [
    0, 1, -1, (0,), (1, 0), (1, (0, 1)), (0, 0, 0), (True,), (1, True), (False, 1), (1, LONG), (LONG, 1), ((2, 4),), ((1, 0),),
    (1, (1, -1)), ("x",), (1, None), ([1, 2],), (1, (1, 2, 3)), (0,) * 41 + (1,), (1,) * 42, (0,) * 40, ((),), (1, ()),
]


def error_of(call, *arguments):
    """The error that a call raises, `None` if it raises none."""
    try:
        call(*arguments)
    except Exception as error:
        return error
    return None


def wrongs(case, call, wrong, error, *arguments):
    """Check that the call raises an error of this very class for each wrong value in the place of `...`."""
    for value in wrong:
        told = error_of(call, *[value if argument is ... else argument for argument in arguments])
        case.assertIs(type(told), error, (call.__name__, value))
        if error is InvalidNumber:
            case.assertIs(told.given, value)


def run_examples(case, text, names):
    """Run examples as the document writes them: `>>> ` and code, below it what it gives or raises."""
    lines = [line for line in text.strip().split("\n")]
    ran = 0
    while lines:
        code = lines.pop(0)
        case.assertTrue(code.startswith(">>> "), code)
        if not lines or lines[0].startswith(">>> "):
            exec(code[4:], names)
            continue
        wanted = lines.pop(0)
        ran += 1
        if not wanted.startswith("raises "):
            case.assertEqual(repr(eval(code[4:], names)), repr(eval(wanted, names)), code)
            continue
        try:
            eval(code[4:], names)
        except Exception as error:
            told = eval(wanted[7:], names)
            if isinstance(told, type):
                case.assertIs(type(error), told)
            else:
                case.assertIs(type(error), type(told))
                case.assertEqual(vars(error), vars(told))
        else:
            case.fail(code)
    return ran


def as_python(number):
    """A number as one of Python's own fractions."""
    return Fraction(*number) if isinstance(number, tuple) else Fraction(number)


def as_own(number):
    """One of Python's own fractions as a pair."""
    return number.numerator, number.denominator


def pairs_of(row):
    """A row of integers with each integer n as (n, 1)."""
    return tuple([(entry, 1) for entry in row])


def drawn_number(draw, size):
    """A number with integers up to a size, an integer or a fraction."""
    top = draw.randint(-size, size)
    if draw.random() < 0.5:
        return top
    return as_own(Fraction(top, draw.randint(1, size)))
