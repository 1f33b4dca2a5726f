"""Points 3.1 to 3.6, and the conventions for polynomials."""

import random
import unittest
from fractions import Fraction

from tests.support import (
    DICTS, LONG, NO_NUMBERS, NO_POLYS, NO_VALUES, SIXTY, as_own, as_python, drawn_number, error_of, pairs_of,
    run_examples, wrongs
)
from thirdcounts.base import polys
from thirdcounts.base.polys import (
    are_shares, derived, fitted, integer_zeros, is_poly, poly_less, poly_of_text, poly_of_zeros, poly_product, poly_rest,
    poly_share, poly_shares, poly_sum, poly_text, poly_value, zeros_between
)
from thirdcounts.errors import InvalidNumber, InvalidOperation, InvalidPoly, ParseError, TooMany

EXAMPLES = """
>>> F, G = (-2, 1, 1), (2, -3, 1)
>>> [poly_sum(F, (2, -1)), poly_product(F, (0, (1, 2))), poly_value(F, (1, 2)), derived(F), poly_rest((1, 0, 0, 2), (1, 2)), poly_share(F, G)]
[((0, 1), (0, 1), (1, 1)), ((0, 1), (-1, 1), (1, 2), (1, 2)), (-5, 4), ((1, 1), (2, 1)), (((1, 4), (-1, 2), (1, 1)), ((3, 4),)), ((-1, 1), (1, 1))]
>>> [integer_zeros((0, 0, -1, 1)), integer_zeros((1, 2)), zeros_between((-2, 0, 1), 0, 2), zeros_between((-2, 0, 1), (3, 2), 2), are_shares(F, G, (((1, 4),), ((-1, 4),)))]
[((0, 2), (1, 1)), (), 1, 0, True]
>>> [poly_of_zeros((1, -2)), fitted({0: 1, 1: 0, 2: 1}), poly_text((3, (-1, 2), 1)), poly_text((0, -1)), poly_of_text("-x^3 + 2/3")]
[((-2, 1), (1, 1), (1, 1)), ((1, 1), (-2, 1), (1, 1)), 'x^2 - 1/2 x + 3', '-x', ((2, 3), (0, 1), (0, 1), (-1, 1))]
>>> poly_rest(F, ())
raises InvalidOperation
"""

OF_ONE = [derived, integer_zeros, poly_text]
OF_TWO = [poly_sum, poly_less, poly_product, poly_rest, poly_share, poly_shares]
FAR = 10 ** 200 + 7
FULL = (1,) * 41


def drawn(draw, most, size=6):
    """A polynomial of a degree of at most `most`, perhaps 0."""
    entries = [drawn_number(draw, size) if draw.random() < 0.8 else 0 for _ in range(draw.randint(0, most + 1))]
    while entries and as_python(entries[-1]) == 0:
        entries.pop()
    return tuple(entries)


def cut(entries):
    entries = [as_python(entry) for entry in entries]
    while entries and entries[-1] == 0:
        entries.pop()
    return tuple([as_own(entry) for entry in entries])


def plain_sum(one, other):
    size = max(len(one), len(other))
    lists = [[as_python(entry) for entry in poly] + [Fraction(0)] * (size - len(poly)) for poly in (one, other)]
    return cut([as_own(left + right) for left, right in zip(*lists)])


def plain_product(one, other):
    entries = [Fraction(0)] * (len(one) + len(other))
    for place, left in enumerate(one):
        for further, right in enumerate(other):
            entries[place + further] += as_python(left) * as_python(right)
    return cut([as_own(entry) for entry in entries])


def plain_value(poly, number):
    return sum([as_python(entry) * as_python(number) ** index for index, entry in enumerate(poly)], Fraction(0))


class Examples(unittest.TestCase):

    def test_examples(self):
        self.assertEqual(run_examples(self, EXAMPLES, dict(globals())), 4)

    def test_constants(self):
        self.assertEqual((polys.MAX_DEGREE, polys.MAX_TEXT), (40, 3000))


class Judging(unittest.TestCase):

    def test_polys(self):
        for value in [(), (1,), (0, 1), ((1, 2),), (0,) * 40 + (1,), FULL, (SIXTY, -SIXTY), ((FAR, 2),), (1, 2), (2, 4), (0, (3, 1))]:
            self.assertIs(is_poly(value), True, value)
        for value in NO_POLYS:
            self.assertIs(is_poly(value), False, value)

    def test_shares(self):
        one, other = (-2, 1, 1), (2, -3, 1)
        for value in [(((1, 4),), ((-1, 4),)), poly_shares(one, other)]:
            self.assertIs(are_shares(one, other, value), True)
            for factor in [(1,), ((FAR, 3),), (0, 1), (1, 2, (1, 3))]:
                further = plain_sum(value[0], plain_product(factor, other)), plain_sum(value[1], plain_product(factor, pairs_of((2, -1, -1))))
                self.assertIs(are_shares(one, other, further), True)
        wrong = [
            ((), ()), ((1,), ()), (((1, 4),), ((1, 4),)), (((-1, 4),), ((1, 4),)), (((1, 4),),), (((1, 4),), ((-1, 4),), ()),
            [((1, 4),), ((-1, 4),)], (((1, 4), 0), ((-1, 4),)), ([(1, 4)], ((-1, 4),)), (((1, 4),), None), (((1, 4),), [(-1, 4)]),
            ((1,), (-1,)), (((2, 8),), ((-2, 8),)), (((1, 4),), ((-1, 4), (0, 1))),
        ]
        for value in wrong + NO_NUMBERS + NO_POLYS + NO_VALUES:
            self.assertIs(are_shares(one, other, value), False, value)

    def test_shares_of_zero_and_of_one_another(self):
        self.assertIs(are_shares((), (), ((), ())), True)
        self.assertIs(are_shares((), (), ((1, 2), (0, (1, 3)))), True)
        self.assertIs(are_shares((2,), (), (((1, 2),), (5, 5))), True)
        self.assertIs(are_shares((2,), (), ((1,), (5, 5))), False)
        self.assertIs(are_shares((1,), (1,), ((1,), ())), True)
        self.assertIs(are_shares((1,), (1,), ((2,), (-1,))), True)
        self.assertIs(are_shares((1,), (1,), ((True,), ())), False)
        self.assertIs(are_shares((1,), (1,), ((1,), (False,))), False)
        high = (0,) * 40 + (1,)
        self.assertIs(are_shares(high, high, (high, (1,) + (0,) * 39 + (-1,))), True)
        self.assertIs(are_shares(high, high, (high, high)), False)


class Refusing(unittest.TestCase):

    def test_polys(self):
        for call in OF_ONE:
            wrongs(self, call, NO_POLYS, InvalidPoly, ...)
        for call in OF_TWO:
            wrongs(self, call, NO_POLYS, InvalidPoly, ..., (1, 1))
            wrongs(self, call, NO_POLYS, InvalidPoly, (1, 1), ...)
            wrongs(self, call, NO_POLYS, InvalidPoly, ..., ())
            wrongs(self, call, NO_POLYS, InvalidPoly, FULL, ...)
        wrongs(self, are_shares, NO_POLYS, InvalidPoly, ..., (1,), ((), ()))
        wrongs(self, are_shares, NO_POLYS, InvalidPoly, (1,), ..., None)

    def test_numbers(self):
        wrongs(self, poly_value, NO_POLYS, InvalidPoly, ..., 1)
        wrongs(self, poly_value, NO_POLYS, InvalidPoly, ..., None)
        wrongs(self, poly_value, NO_NUMBERS, InvalidNumber, (1, 2), ...)
        wrongs(self, poly_value, NO_NUMBERS, InvalidNumber, (), ...)

    def test_zeros_between(self):
        wrongs(self, zeros_between, NO_POLYS, InvalidPoly, ..., None, None)
        wrongs(self, zeros_between, NO_NUMBERS, InvalidNumber, (1, 1), ..., 5)
        wrongs(self, zeros_between, NO_NUMBERS, InvalidNumber, (1, 1), 5, ...)
        wrongs(self, zeros_between, NO_NUMBERS, InvalidNumber, (), ..., "x")
        wrongs(self, zeros_between, NO_NUMBERS, InvalidNumber, (), 5, ...)
        for poly, low, high in [((), 0, 1), ((1, 1), 1, 1), ((1, 1), 2, 1), ((1,), (1, 2), (1, 3)), ((1,), (3, 1), 3), ((), 1, 0)]:
            self.assertIs(type(error_of(zeros_between, poly, low, high)), InvalidOperation)

    def test_what_comes_last(self):
        for one in [(), (1,), (1, 2)]:
            self.assertIs(type(error_of(poly_rest, one, ())), InvalidOperation)
        self.assertIs(type(error_of(poly_rest, (0,), ())), InvalidPoly)
        self.assertIs(type(error_of(integer_zeros, ())), InvalidOperation)
        for one, other in [(FULL, (0, 1)), ((0, 1), FULL), ((0,) * 20 + (1,), (0,) * 21 + (1,)), (FULL, FULL)]:
            error = error_of(poly_product, one, other)
            self.assertIs(type(error), TooMany)
            self.assertEqual(error.limit, 40)

    def test_zeros_and_points(self):
        good = [(0,) * 40, (), ((1, 2),)]
        for value in good:
            self.assertTrue(is_poly(poly_of_zeros(value)))
        wrong = NO_VALUES + DICTS + [(0,) * 41, (LONG,), (True,), (1, (2, 4)), [], [1], {}, {1: 1}, "12", 3, ((1, 0),), (1, "2"), (None,)]
        for value in [value for value in wrong if value != ()]:
            self.assertIs(type(error_of(poly_of_zeros, value)), InvalidOperation, value)
        points = [
            {}, {at: 1 for at in range(42)}, {True: 1}, {1: True}, {LONG: 1}, {1: LONG}, {(1, 2): 1}, {(1, 1): 1}, {"a": 1},
            {0: None}, {None: 0}, {0: (2, 4)}, {0: 1, 1: "1"}, {0: 1, "1": 1}, ((0, 1),), [(0, 1)], (0, 1), {0: [1]}, {0: {}},
        ]
        for value in points + NO_NUMBERS + [0, 1, (1, 2)]:
            self.assertIs(type(error_of(fitted, value)), InvalidOperation, value)

    def test_texts(self):
        for value in NO_VALUES + DICTS + [0, 1, (), (1,), (1, 2)]:
            error = error_of(poly_of_text, value)
            self.assertIs(type(error), ParseError)
            self.assertIsNone(error.spot)
        texts = [
            "", " ", "-", "+", "+x", "--x", "- x", "x ", " x", "x^1", "x^0", "x^41", "x^02", "x^-2", "x^", "^2", "x2", "1x", "1 x", "-1 x",
            "0 x", "0 x + 1", "x + 0", "x - 0", "-0", "00", "01 x", "2/4 x", "4/2", "3/1 x", "x + x", "x + x^2", "1 + x", "x^2 + x^2",
            "x+1", "x  + 1", "x +1", "x + -1", "x - -1", "x + +1", "x + 1 ", "x - 1/2x", "1/2 x^2 + 1/-2", "y", "X", "x^2 - x - x", "2x", "xx",
            "x x", "x^2^2", "x**2", "1/0", "x/2", "1 2", "x\n", "1 + 1", "(x)", "x^2 - ", " - x", " + x", "x + ", "1/2 1/2 x", "1_0",
            "1" * 61, "-" + "1" * 61 + " x", "1/" + "3" * 61, "x^2 + " + "1" * 61 + "/2", "x^\u0662", "\u0661", "1" * 3001, "x" * 4000, " " * 3000,
            "x + " * 700 + "x", "x^ 2", "x ^2", "2 x 3", "x^2 3",
        ]
        for text in texts:
            error = error_of(poly_of_text, text)
            self.assertIs(type(error), ParseError, text)
            self.assertEqual(error.spot, 0)

    def test_nothing_is_changed(self):
        for value in [[1, 2], [(1, 2)], {0: [1]}, {2: 1, 0: (1, 2), 1: 5}]:
            before = repr(value)
            for call in OF_ONE + [is_poly, fitted, poly_of_zeros, poly_of_text]:
                error_of(call, value)
            for call in OF_TWO + [poly_value]:
                error_of(call, value, (1,))
                error_of(call, (1,), value)
            error_of(are_shares, (1,), (1,), value)
            error_of(zeros_between, (1,), 0, value)
            self.assertEqual(repr(value), before)


class Reckoning(unittest.TestCase):

    def each(self, many, seed, most=5):
        draw = random.Random(seed)
        for _ in range(many):
            yield draw, drawn(draw, most), drawn(draw, most)

    def test_sums_and_products(self):
        for _, one, other in self.each(200, 1):
            self.assertEqual(poly_sum(one, other), plain_sum(one, other))
            self.assertEqual(poly_less(one, other), plain_sum(one, plain_product(other, (-1,))))
            self.assertEqual(poly_product(one, other), plain_product(one, other))
            self.assertEqual(poly_less(one, one), ())
        self.assertEqual(poly_sum((1, 1), (1, -1)), ((2, 1),))
        self.assertEqual([poly_sum((), ()), poly_product((), FULL), poly_product(FULL, ())], [(), (), ()])
        self.assertEqual(poly_product((0,) * 20 + (1,), (0,) * 20 + (2,)), ((0, 1),) * 40 + ((2, 1),))
        self.assertEqual(poly_product(FULL, (2,)), ((2, 1),) * 41)

    def test_values_and_derived(self):
        for draw, one, other in self.each(200, 2):
            number = drawn_number(draw, 9)
            self.assertEqual(as_python(poly_value(one, number)), plain_value(one, number))
            wanted = cut([as_own(index * as_python(entry)) for index, entry in enumerate(one)][1:])
            self.assertEqual(derived(one), wanted)
            both = poly_sum(poly_product(derived(one), other), poly_product(one, derived(other)))
            self.assertEqual(derived(poly_product(one, other)), both)
        self.assertEqual([derived(()), derived((5,)), poly_value((), 3), poly_value((5,), (1, 2))], [(), (), (0, 1), (5, 1)])
        self.assertEqual(poly_value(FULL, (1, 2)), (2 ** 41 - 1, 2 ** 40))
        self.assertEqual(poly_value((1, 1), (FAR, 2)), (FAR + 2, 2))
        self.assertEqual(derived(FULL), pairs_of(range(1, 41)))

    def test_rests(self):
        for _, one, other in self.each(300, 3):
            if other:
                quotient, rest = poly_rest(one, other)
                self.assertTrue(is_poly(quotient) and is_poly(rest))
                self.assertLess(len(rest), len(other))
                self.assertEqual(plain_sum(plain_product(quotient, other), rest), cut(one))
        self.assertEqual(poly_rest((), (1, 2)), ((), ()))
        self.assertEqual(poly_rest((1, 2), (0, 0, 1)), ((), ((1, 1), (2, 1))))
        self.assertEqual(poly_rest(FULL, (-2,)), (((-1, 2),) * 41, ()))
        self.assertEqual(poly_rest(FULL, (1, -1)), (pairs_of(range(-40, 0)), ((41, 1),)))

    def test_shares(self):
        for draw, one, other in self.each(200, 4, most=4):
            common = drawn(draw, 3)
            one, other = plain_product(one, common), plain_product(other, common)
            share, shares = poly_share(one, other), poly_shares(one, other)
            self.assertIs(are_shares(one, other, shares), True)
            self.assertEqual(plain_sum(plain_product(shares[0], one), plain_product(shares[1], other)), share)
            if share == ():
                self.assertEqual((one, other), ((), ()))
                continue
            self.assertEqual(share[-1], (1, 1))
            self.assertEqual([poly_rest(one, share)[1], poly_rest(other, share)[1]], [(), ()])
            if one and other:
                self.assertEqual(poly_rest(share, common)[1], ())
            self.assertEqual(poly_share(other, one), share)
        self.assertEqual([poly_share((), ()), poly_share((), (3,)), poly_share((2, 4), ())], [(), ((1, 1),), ((1, 2), (1, 1))])

    def test_shares_of_the_greatest_degree(self):
        draw = random.Random(5)
        one, other = [tuple([draw.randint(-SIXTY, SIXTY) for _ in range(41)]) for _ in range(2)]
        shares = poly_shares(one, other)
        self.assertEqual(poly_share(one, other), ((1, 1),))
        self.assertTrue(is_poly(shares[0]) and is_poly(shares[1]))
        self.assertIs(are_shares(one, other, shares), True)
        self.assertIs(are_shares(one, other, shares[::-1]), False)

    def test_numbers_of_zeros(self):
        draw = random.Random(6)
        for _ in range(300):
            zeros = [as_python(drawn_number(draw, 4)) for _ in range(draw.randint(0, 5))]
            zeros = zeros + [draw.choice(zeros) for _ in range(draw.randint(0, 3)) if zeros]
            poly = poly_product(poly_of_zeros(tuple([as_own(zero) for zero in zeros])), (draw.choice([-2, (1, 3), 1]),))
            if draw.random() < 0.5:
                poly = poly_product(poly, draw.choice([(1, 0, 1), (2, 1, 1), (1, 0, 2, 0, 1)]))
            bounds = sorted(set([as_python(drawn_number(draw, 4)) for _ in range(2)] + zeros[:1] + [Fraction(5)]))
            low, high = sorted(draw.sample(bounds, 2))
            wanted = len([zero for zero in set(zeros) if low < zero <= high])
            self.assertEqual(zeros_between(poly, as_own(low), as_own(high)), wanted)

    def test_numbers_of_zeros_that_are_no_fractions(self):
        two = (-2, 0, 1)
        self.assertEqual([zeros_between(two, -2, 2), zeros_between(two, -2, 0), zeros_between(two, (7, 5), (3, 2))], [2, 1, 1])
        four = poly_product(poly_product(two, two), poly_product((-3, 0, 1), (0, 1)))
        self.assertEqual([zeros_between(four, -2, 2), zeros_between(four, -2, 0), zeros_between(four, 0, 2)], [5, 3, 2])
        self.assertEqual([zeros_between((7,), -1, 1), zeros_between((0, 1), -1, 0), zeros_between((0, 1), 0, 1)], [0, 1, 0])
        self.assertEqual(zeros_between((-1, 1), (1, 1), (FAR, 1)), 0)
        # The polynomial that tells the cosine of 40 times an angle by the cosine has 40 zeros.
        one, other = ((1, 1),), ((0, 1), (1, 1))
        for _ in range(39):
            one, other = other, poly_less(poly_product((0, 2), other), one)
        self.assertEqual([zeros_between(other, -1, 1), zeros_between(other, 0, 1), zeros_between(other, -1, (-99, 100))], [40, 20, 2])

    def test_integer_zeros(self):
        draw = random.Random(7)
        for size in [2, 10, 10 ** 6, SIXTY] * 50:
            zeros = [draw.randint(-size, size) for _ in range(draw.randint(0, 5))]
            zeros = zeros + [draw.choice(zeros) for _ in range(draw.randint(0, 4)) if zeros]
            poly = poly_of_zeros(tuple(zeros))
            further = draw.choice([((1, 7),), (1, 2), (1, 0, 1), (-2, 0, 1), (SIXTY, 2), ((1, 3), 5), (-7, 0, 0, 3)])
            wanted = tuple([(zero, zeros.count(zero)) for zero in sorted(set(zeros))])
            self.assertEqual(integer_zeros(poly), wanted)
            self.assertEqual(integer_zeros(poly_product(poly, further)), wanted)
        for poly in [(7,), ((1, 2),), (1, 2), (1, 0, 1), (-2, 0, 1), (1,) + (0,) * 39 + (2,)]:
            self.assertEqual(integer_zeros(poly), ())
        self.assertEqual(integer_zeros((0,) * 40 + (3,)), ((0, 40),))
        self.assertEqual(integer_zeros((-SIXTY, 1)), ((SIXTY, 1),))
        self.assertEqual(integer_zeros(((-1, 1), (1, LONG))), ((LONG, 1),))
        self.assertEqual(integer_zeros(((-1, 2), (0, 1), (1, 8))), ((-2, 1), (2, 1)))
        self.assertEqual(integer_zeros(poly_of_zeros(tuple(range(-20, 20)))), tuple([(zero, 1) for zero in range(-20, 20)]))
        hundred = [101 ** power for power in range(4)] * 3
        self.assertEqual(integer_zeros(poly_of_zeros(tuple(hundred))), tuple([(zero, 3) for zero in hundred[:4]]))

    def test_zeros_and_derived(self):
        draw = random.Random(8)
        for _ in range(100):
            zeros = [draw.randint(-3, 3) for _ in range(draw.randint(1, 6))]
            poly = poly_of_zeros(tuple(zeros))
            for zero in set(zeros):
                self.assertEqual(poly_value(poly, zero), (0, 1))
                self.assertEqual(poly_value(derived(poly), zero) == (0, 1), zeros.count(zero) > 1)
            single, rest = poly_rest(poly, poly_share(poly, derived(poly)))
            self.assertEqual((single, rest), (poly_of_zeros(tuple(sorted(set(zeros)))), ()))

    def test_of_zeros(self):
        self.assertEqual(poly_of_zeros(()), ((1, 1),))
        self.assertEqual(poly_of_zeros((0,) * 40), ((0, 1),) * 40 + ((1, 1),))
        self.assertEqual(poly_of_zeros(((1, 2), (-1, 3))), ((-1, 6), (-1, 6), (1, 1)))
        self.assertEqual(poly_of_zeros(((FAR, 2),)), ((-FAR, 2), (1, 1)))

    def test_fitted(self):
        draw = random.Random(9)
        for _ in range(150):
            places = draw.sample(range(-20, 20), draw.randint(1, 7))
            points = {place: drawn_number(draw, 9) for place in places}
            before = list(points.items())
            poly = fitted(points)
            self.assertTrue(is_poly(poly))
            self.assertLessEqual(len(poly), len(points))
            for place in points:
                self.assertEqual(as_python(poly_value(poly, place)), as_python(points[place]))
            self.assertEqual(list(points.items()), before)
            self.assertEqual(fitted(dict(sorted(points.items()))), poly)
        for _, one, _ in self.each(50, 10):
            self.assertEqual(fitted({at: poly_value(one, at) for at in range(-3, 4)}), cut(one))
        self.assertEqual([fitted({5: 0}), fitted({5: (1, 2)}), fitted({1: 0, 2: (0, 1)})], [(), ((1, 2),), ()])
        self.assertEqual(fitted({at: at ** 40 for at in range(-20, 21)}), ((0, 1),) * 40 + ((1, 1),))
        self.assertEqual(fitted({SIXTY: 1, -SIXTY: -1}), ((0, 1), (1, SIXTY)))

    def test_texts(self):
        told = [
            ((), "0"), ((1,), "1"), ((-1,), "-1"), (((1, 2),), "1/2"), ((0, 1), "x"), ((0, -1), "-x"), ((1, 1), "x + 1"),
            ((-1, -1, -1), "-x^2 - x - 1"), ((0, 2), "2 x"), ((0, (-1, 2)), "-1/2 x"), ((0, 0, -3, 0, (5, 7)), "5/7 x^4 - 3 x^2"),
            ((0,) * 40 + (1,), "x^40"), ((SIXTY, (-1, SIXTY)), "-1/" + "9" * 60 + " x + " + "9" * 60), ((1, 0, 10), "10 x^2 + 1"),
        ]
        for poly, text in told:
            self.assertEqual(poly_text(poly), text)
            self.assertEqual(poly_text(cut(poly)), text)
            self.assertEqual(poly_of_text(text), cut(poly))
        draw = random.Random(11)
        for _ in range(300):
            poly = drawn(draw, draw.choice([2, 6, 40]), draw.choice([1, 2, 100]))
            self.assertEqual(poly_of_text(poly_text(poly)), cut(poly))
        self.assertEqual(poly_text(((LONG, 1),)), "1" + "0" * 60)

    def test_texts_of_the_greatest_length(self):
        poly = (0,) * 17 + ((SIXTY, 10 ** 59),) * 23 + (7,)
        left = 3000 - len(poly_text(poly)) - len(" + ")
        self.assertTrue(0 < left < 60)
        full, longer = (10 ** (left - 1), *poly[1:]), (10 ** left, *poly[1:])
        self.assertEqual([len(poly_text(full)), len(poly_text(longer))], [3000, 3001])
        self.assertEqual(poly_of_text(poly_text(full)), cut(full))
        self.assertEqual(error_of(poly_of_text, poly_text(longer)).spot, 0)

    def test_integers_are_fractions(self):
        one, other = (-2, 1, 1), (2, -3, 1)
        for call in OF_TWO:
            self.assertEqual(call(pairs_of(one), pairs_of(other)), call(one, other))
            self.assertEqual(call(one, pairs_of(other)), call(one, other))
        for call in OF_ONE:
            self.assertEqual(call(pairs_of(one)), call(one))
        self.assertIs(are_shares(pairs_of(one), other, (((1, 4),), ((-1, 4),))), True)
        self.assertEqual(poly_value(one, (3, 1)), poly_value(pairs_of(one), 3))
        self.assertEqual(zeros_between(pairs_of(one), (-3, 1), (1, 1)), zeros_between(one, -3, 1))
        self.assertEqual(poly_of_zeros(((1, 1), (2, 1))), poly_of_zeros((1, 2)))
        self.assertEqual(fitted({1: (2, 1), 2: (3, 1)}), fitted({1: 2, 2: 3}))

    def test_what_is_not_true(self):
        poly = (1, 0, 1)
        self.assertEqual(poly_share(poly, derived(poly)), ((1, 1),))
        self.assertEqual(zeros_between(poly, -SIXTY, SIXTY), 0)
        self.assertEqual(poly_rest((0, 1), (1, 2))[0], ((1, 2),))


if __name__ == "__main__":
    unittest.main()
