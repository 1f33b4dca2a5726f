"""Points 1.1 and 1.2."""

import unittest

from thirdcounts import errors

TOLD = [
    "InvalidTable", "InvalidPoly", "InvalidScheme", "InvalidCounts", "InvalidWeb", "InvalidKinds", "InvalidLot",
    "InvalidOrder", "InvalidParting", "InvalidMoves", "InvalidPledge", "InvalidOperation",
]
KEPT = [
    ("ParseError", "spot", errors.ThirdError), ("InvalidNumber", "given", IndexError), ("UnknownName", "name", KeyError),
    ("NothingToUndo", "wanted", RuntimeError), ("TooMany", "limit", OverflowError), ("Refused", "reason", ArithmeticError),
]
KEPT_VALUES = [0, -1, 10 ** 100, True, None, "", "name", (), ("determinant",), (1, (2, [3])), [1, 2], {"a": [1]}, b"a"]


class Errors(unittest.TestCase):

    def test_base(self):
        self.assertEqual(errors.ThirdError.__bases__, (ValueError,))

    def test_messages(self):
        for name in TOLD:
            error = getattr(errors, name)
            self.assertEqual(error.__bases__, (errors.ThirdError,), name)
            self.assertIsInstance(error("any message"), ValueError)
            with self.assertRaises(error):
                raise error("any message")

    def test_not_from_one_another(self):
        found = [getattr(errors, name) for name in TOLD] + [errors.ParseError]
        for one in found:
            for other in found:
                self.assertEqual(issubclass(one, other), one is other)

    def test_kept(self):
        for name, attribute, base in KEPT:
            error = getattr(errors, name)
            self.assertEqual(error.__bases__, (base,), name)
            for value in KEPT_VALUES:
                self.assertIs(getattr(error(value), attribute), value)
                self.assertEqual(list(vars(error(value))), [attribute])

    def test_kept_when_raised(self):
        with self.assertRaises(IndexError) as caught:
            raise errors.InvalidNumber("no number")
        self.assertEqual(caught.exception.given, "no number")
        with self.assertRaises(ValueError) as caught:
            raise errors.ParseError(3)
        self.assertEqual(caught.exception.spot, 3)

    def test_others_are_no_third_errors(self):
        for name, _, base in KEPT[1:]:
            self.assertFalse(issubclass(getattr(errors, name), errors.ThirdError))
            self.assertFalse(issubclass(getattr(errors, name), ValueError))

    def test_all_are_defined_here(self):
        for name in TOLD + [row[0] for row in KEPT] + ["ThirdError"]:
            self.assertEqual(getattr(errors, name).__module__, "thirdcounts.errors")


if __name__ == "__main__":
    unittest.main()
