"""Points 1.3, 1.4 and 1.5, and the conventions for numbers."""

import math
import random
import unittest
from fractions import Fraction

from tests.support import (
    DICTS, LONG, NO_FRACTIONS, NO_NUMBERS, NO_VALUES, SIXTY, as_own, as_python, drawn_number, error_of,
    run_examples, wrongs
)
from thirdcounts.base import numbers
from thirdcounts.base.numbers import (
    added, binomial, compared, divided, factorial, floor_of, fraction, is_fraction, is_integer, is_name, is_number,
    less, multiplied, number_of_text, number_text, power_of, root_of
)
from thirdcounts.errors import InvalidNumber, InvalidOperation, ParseError

EXAMPLES = """
>>> [is_name("Ab"), is_fraction((2, 4)), is_fraction((0, 1)), is_fraction((1, -2)), is_number((3, 1)), is_number((3, 1, 1)), is_number(True)]
[False, False, True, False, True, False, False]
>>> [fraction(6, -4), added((1, 2), (1, 3)), less(1, (1, 4)), multiplied(6, (1, 4)), divided((1, 2), -3), power_of((-2, 3), -3), compared((1, 3), (2, 7))]
[(-3, 2), (5, 6), (3, 4), (3, 2), (-1, 6), (-27, 8), 1]
>>> [root_of((9, 4)), root_of(8), root_of(-1), root_of(0), floor_of((-3, 2)), floor_of((7, 2)), factorial(5), binomial(6, 2), binomial(2, 3)]
[(3, 2), None, None, (0, 1), -2, 3, 120, 15, 0]
>>> [number_text((-3, 2)), number_text((4, 1)), number_of_text("-3/2"), number_of_text("0")]
['-3/2', '4', (-3, 2), (0, 1)]
>>> number_of_text("4/2")
raises ParseError(0)
"""

OF_TWO = [added, less, multiplied, divided, compared]
OF_ONE = [root_of, floor_of, number_text]
FAR = 10 ** 300 + 1


class Examples(unittest.TestCase):

    def test_examples(self):
        self.assertEqual(run_examples(self, EXAMPLES, dict(globals())), 5)

    def test_constants(self):
        self.assertEqual((numbers.MAX_NAME, numbers.MAX_RAISED), (8, 1000))
        self.assertEqual((numbers.MAX_CHOSEN, numbers.MAX_TEXT), (1000, 400))


class Judging(unittest.TestCase):

    def test_integers(self):
        for value in [0, 1, -1, SIXTY, -SIXTY]:
            self.assertIs(is_integer(value), True)
            self.assertIs(is_number(value), True)
            self.assertIs(is_fraction(value), False)
        for value in [LONG, -LONG, True, False, None, "1", (1, 1), [1], {1: 1}]:
            self.assertIs(is_integer(value), False)

    def test_fractions_of_any_length(self):
        for value in [(0, 1), (1, 1), (-3, 2), (LONG, 1), (-LONG, LONG + 1), (1, FAR), (2 ** 5000, 3 ** 4000)]:
            self.assertIs(is_fraction(value), True)
            self.assertIs(is_number(value), True)
            self.assertIs(is_integer(value), False)
            self.assertIs(is_name(value), False)

    def test_names(self):
        for value in ["a", "z", "abcdefgh", "kernel"]:
            self.assertIs(is_name(value), True)
        for value in ["", "abcdefghi", "A", "aB", "a1", "a b", "a_b", "a\n", " a", "`", "{", "\u00e9", "\u00df", "\uff41"]:
            self.assertIs(is_name(value), False)

    def test_no_numbers(self):
        for value in NO_NUMBERS:
            self.assertIs(is_integer(value), False, value)
            self.assertIs(is_fraction(value), False, value)
            self.assertIs(is_number(value), False, value)
        for value in NO_VALUES + DICTS + NO_FRACTIONS + [0, 1, "", "a" * 9]:
            self.assertIs(is_name(value), False, value)


class Refusing(unittest.TestCase):

    def test_one_number(self):
        for call in OF_ONE:
            wrongs(self, call, NO_NUMBERS, InvalidNumber, ...)

    def test_two_numbers(self):
        for call in OF_TWO:
            wrongs(self, call, NO_NUMBERS, InvalidNumber, ..., 1)
            wrongs(self, call, NO_NUMBERS, InvalidNumber, (1, 2), ...)
            wrongs(self, call, NO_NUMBERS, InvalidNumber, ..., None)
            wrongs(self, call, NO_NUMBERS, InvalidNumber, ..., 0)

    def test_fraction(self):
        wrong = [value for value in NO_NUMBERS if not isinstance(value, int) or isinstance(value, bool)]
        wrongs(self, fraction, wrong + [(1, 2), (1, 1)], InvalidNumber, ..., 1)
        wrongs(self, fraction, wrong + [0, (1, 2)], InvalidNumber, 1, ...)
        wrongs(self, fraction, wrong, InvalidNumber, ..., 0)

    def test_divided_by_zero_comes_last(self):
        for zero in [0, (0, 1)]:
            for one in [0, 1, (1, 2), (LONG, 1)]:
                self.assertIs(type(error_of(divided, one, zero)), InvalidOperation)
            self.assertIs(type(error_of(divided, True, zero)), InvalidNumber)

    def test_power(self):
        wrongs(self, power_of, NO_NUMBERS, InvalidNumber, ..., 2)
        wrongs(self, power_of, NO_NUMBERS, InvalidNumber, ..., 1001)
        wrongs(self, power_of, NO_NUMBERS + [1001, -1001, (1, 1), (1, 2)], InvalidNumber, 2, ...)
        wrongs(self, power_of, [-1001, 1001, None, (-1, 1)], InvalidNumber, 0, ...)
        for zero in [0, (0, 1)]:
            for many in [-1, -1000]:
                self.assertIs(type(error_of(power_of, zero, many)), InvalidOperation)

    def test_chosen(self):
        wrong = NO_NUMBERS + [-1, 1001, SIXTY, -SIXTY, (1, 1), (1, 2)]
        wrongs(self, factorial, wrong, InvalidNumber, ...)
        wrongs(self, binomial, wrong, InvalidNumber, ..., 1)
        wrongs(self, binomial, wrong, InvalidNumber, 1, ...)
        wrongs(self, binomial, wrong, InvalidNumber, ..., -1)

    def test_texts(self):
        texts = [
            "", " ", "-", "+1", "-0", "00", "01", "-01", "1/", "/1", "/", "1/0", "0/1", "0/2", "1/1", "4/2", "-4/2", "3/-2", "-3/-2",
            "--3", "1/2/3", " 1", "1 ", "1 /2", "1_0", "1.0", "1e3", "0x1", "1/02", "01/2", "None", "True", "(1, 2)", "\u0661",
            "\u00b2", "1\n", "x", "-0/1", "1,2", "1" * 401, "-" + "1" * 400, "1" * 199 + "/" + "1" * 201,
        ]
        for value in texts + NO_VALUES + DICTS + NO_FRACTIONS + [0, 1, (1, 2)]:
            error = error_of(number_of_text, value)
            self.assertIs(type(error), ParseError, value)
            self.assertEqual(error.spot, 0)

    def test_nothing_is_changed(self):
        for value in [[1, 2], {1: [2]}, [[[]]]]:
            before = repr(value)
            for call in OF_ONE + [is_integer, is_name, is_fraction, is_number, factorial, number_of_text]:
                error_of(call, value)
            for call in OF_TWO + [fraction, power_of, binomial]:
                error_of(call, value, 1)
                error_of(call, 1, value)
            self.assertEqual(repr(value), before)


class Reckoning(unittest.TestCase):

    def test_fraction(self):
        self.assertEqual(fraction(0, -7), (0, 1))
        self.assertEqual(fraction(-6, -4), (3, 2))
        self.assertEqual(fraction(LONG * 6, -LONG * 4), (-3, 2))
        self.assertEqual(fraction(FAR, 1), (FAR, 1))
        draw = random.Random(1)
        for _ in range(300):
            top, bottom = draw.randint(-99, 99), draw.choice([-1, 1]) * draw.randint(1, 99)
            self.assertEqual(fraction(top, bottom), as_own(Fraction(top, bottom)))

    def test_like_python(self):
        draw = random.Random(2)
        for size in [3, 50, 10 ** 30, SIXTY] * 100:
            one, other = drawn_number(draw, size), drawn_number(draw, size)
            left, right = as_python(one), as_python(other)
            self.assertEqual(added(one, other), as_own(left + right))
            self.assertEqual(less(one, other), as_own(left - right))
            self.assertEqual(multiplied(one, other), as_own(left * right))
            self.assertEqual(compared(one, other), (left > right) - (left < right))
            self.assertIs(type(compared(one, other)), int)
            self.assertEqual(floor_of(one), math.floor(left))
            self.assertIs(type(floor_of(one)), int)
            if right != 0:
                self.assertEqual(divided(one, other), as_own(left / right))
            self.assertEqual(number_of_text(number_text(one)), as_own(left))
            self.assertTrue(is_fraction(added(one, other)) and is_fraction(multiplied(one, other)))

    def test_integers_are_fractions(self):
        for one in [-3, 0, 2]:
            for other in [-2, 1, 5]:
                for call in OF_TWO:
                    told = call(one, other)
                    self.assertEqual([call((one, 1), other), call(one, (other, 1)), call((one, 1), (other, 1))], [told] * 3)
            for call in OF_ONE:
                self.assertEqual(call((one, 1)), call(one))
            self.assertEqual(power_of((one, 1), 3), power_of(one, 3))
        self.assertEqual(compared((LONG, 1), (LONG, 1)), 0)

    def test_integers_of_fractions_have_any_length(self):
        self.assertEqual(added((FAR, 1), 1), (FAR + 1, 1))
        self.assertEqual(multiplied((FAR, 2), (2, FAR)), (1, 1))
        self.assertEqual(multiplied(SIXTY, SIXTY), (SIXTY * SIXTY, 1))
        self.assertEqual(compared((FAR, 2), (FAR, 4)), 1)

    def test_powers(self):
        draw = random.Random(3)
        for _ in range(200):
            number, many = drawn_number(draw, 20), draw.randint(-12, 12)
            if number != 0 and number != (0, 1) or many >= 0:
                self.assertEqual(power_of(number, many), as_own(as_python(number) ** many))
        for zero in [0, (0, 1)]:
            self.assertEqual([power_of(zero, 0), power_of(zero, 1), power_of(zero, 1000)], [(1, 1), (0, 1), (0, 1)])
        self.assertEqual(power_of((-2, 3), 1000), (2 ** 1000, 3 ** 1000))
        self.assertEqual(power_of((-2, 3), -1000), (3 ** 1000, 2 ** 1000))
        self.assertEqual(power_of((-2, 3), -999), (-3 ** 999, 2 ** 999))
        self.assertEqual(power_of(SIXTY, 1000), (SIXTY ** 1000, 1))

    def test_roots(self):
        draw = random.Random(4)
        for size in [5, 100, 10 ** 30, FAR] * 50:
            root = Fraction(draw.randint(1, size), draw.randint(1, size))
            self.assertEqual(root_of(as_own(root * root)), as_own(root))
            self.assertIsNone(root_of(as_own(root * root * 2)))
            self.assertIsNone(root_of(as_own(-root * root)))
        for number in range(200):
            root = math.isqrt(number)
            self.assertEqual(root_of(number), (root, 1) if root * root == number else None)
        self.assertEqual([root_of((1, 8)), root_of((4, 3)), root_of((2, 9)), root_of((-4, 9))], [None] * 4)
        self.assertIsNone(root_of((FAR * FAR + 1, 1)))

    def test_floors(self):
        self.assertEqual([floor_of(5), floor_of((-1, 3)), floor_of((-4, 1)), floor_of((1, 3))], [5, -1, -4, 0])

    def test_chosen(self):
        self.assertEqual([factorial(0), factorial(1), factorial(1000)], [1, 1, math.factorial(1000)])
        self.assertEqual([binomial(0, 0), binomial(1000, 500), binomial(1000, 1000)], [1, math.comb(1000, 500), 1])
        self.assertEqual([binomial(0, 1), binomial(999, 1000)], [0, 0])
        for top in range(12):
            for low in range(14):
                self.assertEqual(binomial(top, low), math.comb(top, low))

    def test_texts(self):
        for number, text in [(0, "0"), (-1, "-1"), ((1, 2), "1/2"), ((-1, 2), "-1/2"), (SIXTY, "9" * 60), ((LONG, 1), str(LONG))]:
            self.assertEqual(number_text(number), text)
            self.assertEqual(as_python(number_of_text(text)), as_python(number))
            self.assertIs(type(number_of_text(text)), tuple)
        longest = ["1" * 400, "-" + "1" * 399, "1" * 200 + "/" + "9" * 198 + "1", "-1/" + "3" * 397]
        for text in longest:
            self.assertEqual(number_text(number_of_text(text)), text)
        self.assertEqual(number_text((10 ** 3999, 1)), "1" + "0" * 3999)

    def test_what_is_not_true(self):
        self.assertEqual(compared(root_of((1, 4)), (1, 4)), 1)
        self.assertNotEqual(floor_of(added((1, 2), (1, 2))), floor_of((1, 2)) + floor_of((1, 2)))


if __name__ == "__main__":
    unittest.main()
