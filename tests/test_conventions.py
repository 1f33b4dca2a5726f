"""Points 0.1 to 0.7 for stages 4 to 19: wrong values at each place, their order, and that nothing is changed."""

import unittest
from collections import Counter

from tests.more_places import MORE_CALLS, MORE_CLOSE, MORE_JUDGES
from tests.places import BASE, CALLS, CLOSE, CORNERS, JUDGES, OBJECTS, Place, array, kinds_table, listed, some_counts
from tests.samples import CUBE, FIVE_RING, PAIRS, PRISM
from tests.support import error_of, wrongs
from thirdcounts import errors
from thirdcounts.errors import InvalidNumber
from thirdcounts.ladder.ladders import is_array
from thirdcounts.pairs.counts import is_counts
from thirdcounts.pairs.schemes import is_kinds_table, is_scheme_table

ALL = CALLS + MORE_CALLS
ALL += [(call, places + [Place(right[0] if right else (), None, [])]) for call, places, right in JUDGES + MORE_JUDGES]
MODULES = """
pairs.schemes pairs.counts eigen.spaces eigen.krein ladder.ladders webs.walks twokinds.tuples parts.closed made.products
made.fusions moving.groups lots.counting lots.bounds lots.meeting kin.families use.desk
""".split()


class Places(unittest.TestCase):

    def test_valid_calls(self):
        for call, places in ALL:
            arguments = [place.valid for place in places]
            self.assertEqual(call(*arguments), call(*arguments), call)

    def test_one_wrong_value(self):
        for call, places in ALL:
            for at, place in enumerate(places):
                arguments = [... if index == at else further.valid for index, further in enumerate(places)]
                if place.error:
                    wrongs(self, call, place.wrong, place.error, *arguments)

    def test_two_wrong_values(self):
        for call, places in ALL:
            for high, later in enumerate(places):
                for low, place in enumerate(places[:high]):
                    for first, second in [(None, None), (True, False), ("x", []), ({}, "x"), (10 ** 99, -(10 ** 99)), (((2, 4), (3, 6)), {1: 2})]:
                        arguments = [further.valid for further in places]
                        arguments[low], arguments[high] = first, second
                        error = error_of(call, *arguments)
                        self.assertIs(type(error), place.error, (call, arguments))
                        if place.error is InvalidNumber:
                            self.assertIs(error.given, first)

    def test_later_values_are_checked_by_the_first_ones(self):
        # Wrong ones come last, so a first argument that makes another one wrong comes ahead of it.
        for call, places in ALL:
            if len(places) > 1 and places[-1].error:
                for wrong in places[0].wrong[:20]:
                    arguments = [wrong] + [place.valid for place in places[1:-1]] + [places[-1].wrong[0]]
                    self.assertIs(type(error_of(call, *arguments)), places[0].error, call)

    def test_nothing_is_changed(self):
        for call, places in ALL:
            for at, place in enumerate(places):
                for value in [listed(place.valid), [place.valid], {"a": listed(place.valid)}, (listed(place.valid), {1: [2]})]:
                    arguments = [value if index == at else further.valid for index, further in enumerate(places)]
                    before = repr(arguments)
                    error_of(call, *arguments)
                    self.assertEqual(repr(arguments), before, call)

    def test_each_function_is_here(self):
        named = Counter([call.__name__ for call, _ in ALL])
        for module in MODULES:
            loaded = __import__(f"thirdcounts.{module}", fromlist=["x"])
            for name, value in vars(loaded).items():
                told = getattr(value, "__module__", "") == loaded.__name__ and name.islower() and not name.startswith("_")
                if told and not name.startswith("need_") and name not in NO_INTERFACE:
                    self.assertEqual(named[name], 1, name)


NO_INTERFACE = """
is_sequence is_order is_ascending is_parting_of thirds_and_fault is_counts_table is_sum_of_kinds told_valencies whole_times least_wholes
order_between rows_or_none told_multiplicities told_krein_table is_lot outer_row told_inner_counts duals_of told_dual_counts
told_degree keeps
""".split()


class Judging(unittest.TestCase):

    def test_each_value(self):
        for call, places, right in JUDGES + MORE_JUDGES:
            arguments = [place.valid for place in places]
            for value in right:
                self.assertIs(call(*arguments, value), True, (call, value))
            for value in BASE + OBJECTS + CLOSE + MORE_CLOSE:
                told = call(*arguments, value)
                self.assertIs(type(told), bool, (call, value))
                if value in BASE and value != ((), ()):
                    self.assertIs(told, False, (call, value))
                if "True" in repr(value) or isinstance(value, list):
                    self.assertIs(told, False, (call, value))

    def test_wrong_tables(self):
        table, numbers, rows = kinds_table(PAIRS.table), some_counts(CORNERS), array(((3,), (1,)))
        for judge, place in [(is_kinds_table, table), (is_scheme_table, table), (is_counts, numbers), (is_array, rows)]:
            for value in place.wrong:
                self.assertIs(judge(value), False, value)


class Objects(unittest.TestCase):

    def test_equality(self):
        for value in BASE + CLOSE:
            if value is not PAIRS:
                self.assertIs(PAIRS == value, False)
                self.assertIs(PAIRS != value, True)
                self.assertIs(value in PAIRS, False)
            if value is not FIVE_RING:
                self.assertIs(FIVE_RING == value, False)
                self.assertIs(FIVE_RING != value, True)

    def test_iterating(self):
        self.assertEqual(list(PAIRS), list(PAIRS.table))
        self.assertTrue(all(row in PAIRS for row in PAIRS))
        self.assertRaises(TypeError, iter, PRISM)
        self.assertRaises(TypeError, len, PRISM)

    def test_objects_never_change(self):
        for item, names in [(CUBE, ["table", "size", "most", "valencies"]), (PRISM, ["size", "ties", "valencies", "is_regular", "is_joined"])]:
            for name in names:
                before = getattr(item, name)
                self.assertRaises(AttributeError, setattr, item, name, 1)
                self.assertEqual(getattr(item, name), before)

    def test_errors_are_the_packages_own(self):
        self.assertTrue(all(hasattr(errors, place.error.__name__) for _, places in CALLS for place in places))


if __name__ == "__main__":
    unittest.main()
