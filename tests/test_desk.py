"""Points 19.1 to 19.3, and 0.1 to 0.4 for the desk."""

import random
import unittest
from collections import Counter
from fractions import Fraction

from tests.places import BASE, scheme as scheme_place
from tests.more_places import MORE_CLOSE, MORE_JUDGES, lot as lot_place, moves, parting as parting_place
from tests.samples import CUBE, FIVE_RING, PAIRS, SQUARE
from tests.support import LONG, as_own, as_python, error_of, run_examples
from thirdcounts.errors import (
    InvalidLot, InvalidMoves, InvalidNumber, InvalidOperation, InvalidParting, InvalidPledge, InvalidScheme, NothingToUndo, Refused, TooMany, UnknownName
)
from thirdcounts.lots.counting import inner_counts
from thirdcounts.made.fusions import all_fusions, fused, is_parting
from thirdcounts.pairs.counts import counts_of
from thirdcounts.pairs.schemes import Scheme
from thirdcounts.use.desk import MAX_LOTS, MAX_PLEDGES, Desk, is_pledge

EXAMPLES = """
>>> desk, kept = Desk(Scheme.by_ring(6)), ("keeps", "a", (2,))
>>> [desk.put("a", (0, 2, 4)), desk.put("b", (0, 3)), desk.unite("c", "a", "b")]
[((), ('a: 0 2 4 has 1 0 2 0',)), ((), ('b: 0 3 has 1 0 0 1',)), ((), ('c: 0 2 3 4 has 1 1 3/2 1/2',))]
>>> [desk.demand(kept), desk.toggle("b", 5)[1], desk.lot_named("b"), str(desk)]
[((), ()), ('b: 0 3 5 has 1 2/3 2/3 2/3',), (0, 3, 5), 'desk of 6 points, 3 lots, 1 pledges']
>>> desk.toggle("a", 1)
raises Refused(('keeps', 'a', (2,)))
>>> [desk.waive(kept), len(desk.fuse(((1, 3), (2,)))[1]), desk.lines[0], desk.undo(many=2)[1][0], desk.changes]
[((), ()), 3, 'a: 0 2 4 has 1 0 2', 'a: 0 2 4 has 1 0 2 0', 5]
"""

NAMES = ["a", "b", "c", "d", "one", "other", "zz", "abcdefgh"]
NO_NAMES = [value for value in BASE if value not in ("x", "a")] + ["A", "aB", "a1", "abcdefghi", "a ", 0, ("a",)]


def number_text(entry):
    return f"{entry.numerator}" if entry.denominator == 1 else f"{entry.numerator}/{entry.denominator}"


def line_of(table, name, lot):
    most = max(table[0]) if len(table) > 1 else 0
    kinds = Counter(table[x][y] for x in lot for y in lot)
    return f"{name}: {' '.join(map(str, lot))} has {' '.join(number_text(Fraction(kinds[i], len(lot))) for i in range(most + 1))}"


class State:
    """What a desk has, told without the package."""

    def __init__(self, table, lots=None, pledges=()):
        self.table, self.lots, self.pledges = table, dict(lots or {}), tuple(pledges)

    def but(self, **changed):
        told = {"table": self.table, "lots": self.lots, "pledges": self.pledges}
        return State(**{**told, **changed})

    def with_lot(self, name, lot):
        return self.but(lots={**self.lots, name: tuple(sorted(lot))})

    def lines(self):
        return tuple([line_of(self.table, name, lot) for name, lot in sorted(self.lots.items())])

    def holds(self, pledge):
        word, name, last = pledge[0], pledge[1], pledge[-1]
        lot, most = self.lots.get(name), max(self.table[0])
        if lot is None:
            return False
        kinds = Counter(self.table[x][y] for x in lot for y in lot)
        if word == "keeps":
            return all(kind <= most for kind in last) and all(kind in last for kind in kinds if kind)
        if word == "degree":
            return len(kinds) - 1 == last
        if word == "meets":
            return pledge[2] in self.lots and len(set(lot) & set(self.lots[pledge[2]])) == last
        return pledge[2] <= most and Fraction(kinds[pledge[2]], len(lot)) == as_python(last)

    def broken(self):
        return next((pledge for pledge in self.pledges if not self.holds(pledge)), None)


class Model:
    """A desk as a list of all states and the place in it."""

    def __init__(self, table):
        self.states, self.at = [State(table)], 0

    @property
    def now(self):
        return self.states[self.at]

    def news(self, before):
        old, new = before.lines(), self.now.lines()
        return tuple([line for line in old if line not in new]), tuple([line for line in new if line not in old])

    def change(self, state):
        before = self.now
        self.states = self.states[:self.at + 1] + [state]
        self.at += 1
        return self.news(before)

    def step(self, steps):
        before = self.now
        self.at += steps
        return self.news(before)


def looks(desk):
    """All that a desk tells."""
    return (
        desk.scheme.table, desk.names, desk.lines, desk.pledges, desk.changes, len(desk), str(desk), list(desk), [desk.lot_named(name) for name in desk.names]
    )


def all_of(desk):
    """All that a desk tells, now and at all its changes."""
    twin = desk.twin()
    found = [looks(twin)]
    while twin.changes:
        twin.undo()
        found.append(looks(twin))
    twin = desk.twin()
    while error_of(lambda: twin.redo()) is None:
        found.append(looks(twin))
    return found


def filled(scheme=CUBE):
    desk = Desk(scheme)
    desk.put("a", (0, 3, 5, 6))
    desk.put("b", (0, 7))
    return desk


class Examples(unittest.TestCase):

    def test_examples(self):
        self.assertEqual(run_examples(self, EXAMPLES, dict(globals())), 4)
        self.assertEqual((MAX_LOTS, MAX_PLEDGES), (6, 10))


class Pledges(unittest.TestCase):

    def test_is_pledge(self):
        for name in NAMES:
            for right in [("keeps", name, ()), ("keeps", name, tuple(range(1, 11))), ("degree", name, 10 ** 60 - 1), ("meets", name, name, 0), ("pairs", name, 10, (1, 10 ** 70))]:
                self.assertIs(is_pledge(right), True)
                self.assertIs(is_pledge(list(right)), False)
                for at in range(len(right)):
                    for wrong in [None, True, [1], {}, LONG, FIVE_RING, -1]:
                        if wrong == -1 and at == 3 and right[0] == "pairs":
                            continue
                        self.assertIs(is_pledge(right[:at] + (wrong,) + right[at + 1:]), False)
        for wrong in NO_NAMES:
            if wrong != "x":
                self.assertIs(is_pledge(("degree", wrong, 1)), False, wrong)
                self.assertIs(is_pledge(("meets", "a", wrong, 1)), False, wrong)

    def test_what_holds(self):
        desk = filled()
        ring = Scheme.by_ring(5)
        for pledge, wanted in [
            (("keeps", "a", (2,)), True), (("keeps", "a", (2, 3)), True), (("keeps", "a", (1, 3)), False), (("keeps", "a", ()), False), (("keeps", "a", (2, 4)), False),
            (("keeps", "c", (2,)), False), (("keeps", "b", (3,)), True), (("degree", "a", 1), True), (("degree", "a", 0), False), (("degree", "c", 1), False),
            (("meets", "a", "b", 1), True), (("meets", "b", "a", 1), True), (("meets", "a", "a", 4), True), (("meets", "a", "b", 2), False), (("meets", "a", "c", 0), False),
            (("meets", "c", "a", 0), False), (("pairs", "a", 2, 3), True), (("pairs", "a", 2, (3, 1)), True), (("pairs", "a", 0, 1), True), (("pairs", "a", 1, 0), True),
            (("pairs", "a", 1, (1, 2)), False), (("pairs", "a", 4, 0), False), (("pairs", "c", 0, 1), False), (("pairs", "a", 10, 0), False),
        ]:
            before = looks(desk)
            error = error_of(desk.demand, pledge)
            if wanted:
                self.assertIs(error, None, pledge)
                self.assertEqual(desk.waive(pledge), ((), ()))
            else:
                self.assertEqual((type(error), error.reason), (Refused, pledge))
                self.assertEqual(looks(desk), before)
        desk = Desk(ring)
        desk.put("p", (3,))
        desk.demand(("keeps", "p", ()))
        desk.demand(("keeps", "p", (1, 2)))
        desk.demand(("degree", "p", 0))
        self.assertEqual(error_of(desk.demand, ("keeps", "p", (3,))).reason, ("keeps", "p", (3,)))
        self.assertEqual(error_of(desk.toggle, "p", 4).reason, ("keeps", "p", ()))
        self.assertEqual(desk.pledges, (("keeps", "p", ()), ("keeps", "p", (1, 2)), ("degree", "p", 0)))

    def test_demands(self):
        desk = filled()
        for many in range(10):
            desk.demand(("keeps", "a", (2,)) if many == 0 else ("pairs", "b", 0, 1) if many == 1 else ("meets", "a", "b", 1) if many == 2 else kept(many))
        self.assertEqual((len(desk), len(desk.pledges)), (10, 10))
        for pledge, error in [(None, InvalidPledge), (("degree", "b"), InvalidPledge), (("keeps", "a", (2,)), InvalidOperation), (("degree", "a", 9), TooMany), (("degree", "b", 1), TooMany)]:
            before = all_of(desk)
            told = error_of(desk.demand, pledge)
            self.assertIs(type(told), error)
            self.assertEqual(all_of(desk), before)
        self.assertEqual(error_of(desk.demand, ("degree", "b", 1)).limit, 10)
        for pledge in [None, ("degree", "b", 1), ("keeps", "a", [2]), ("keeps", "a", (2, 3, 4)), ("meets", "a", "b", True), "a: 0 3 5 6 has 1 0 3 0"]:
            self.assertIs(type(error_of(desk.waive, pledge)), InvalidOperation)
        self.assertEqual(desk.waive(("keeps", "a", (2,))), ((), ()))
        self.assertIs(type(error_of(desk.waive, ("keeps", "a", (2,)))), InvalidOperation)
        self.assertEqual(desk.demand(("degree", "b", 1)), ((), ()))
        self.assertEqual(desk.pledges[0], ("pairs", "b", 0, 1))
        self.assertEqual(desk.pledges[-1], ("degree", "b", 1))

    def test_first_broken_pledge(self):
        desk = filled()
        for pledge in [("meets", "a", "b", 1), ("degree", "a", 1), ("keeps", "a", (2,))]:
            desk.demand(pledge)
        self.assertEqual(error_of(desk.toggle, "a", 1).reason, ("degree", "a", 1))
        self.assertEqual(error_of(desk.toggle, "a", 7).reason, ("meets", "a", "b", 1))
        self.assertEqual(error_of(desk.drop, "b").reason, ("meets", "a", "b", 1))
        self.assertEqual(error_of(desk.rename, {"a": "c", "b": "b"}).reason, ("meets", "a", "b", 1))
        self.assertEqual(error_of(desk.fuse, ((1, 2, 3),)).reason, ("keeps", "a", (2,)))
        self.assertEqual(desk.shuffle((7, 6, 5, 4, 3, 2, 1, 0))[0], ("a: 0 3 5 6 has 1 0 3 0",))

    def test_pledges_keep_their_names(self):
        desk = filled()
        desk.demand(("pairs", "a", 2, 3))
        self.assertEqual(error_of(desk.rename, {"a": "b", "b": "a"}).reason, ("pairs", "a", 2, 3))
        desk.put("c", (1, 2, 4, 7))
        desk.rename({"a": "d", "c": "a", "b": "b"})
        self.assertEqual((desk.lot_named("a"), desk.lot_named("d"), desk.names), ((1, 2, 4, 7), (0, 3, 5, 6), ("a", "b", "d")))


def kept(many):
    return [("keeps", "a", (2, 3)), ("keeps", "a", (1, 2)), ("keeps", "a", (1, 2, 3)), ("pairs", "a", 0, 1), ("pairs", "a", 1, 0), ("pairs", "a", 2, 3), ("pairs", "a", 3, 0)][many - 3]


class Methods(unittest.TestCase):

    def test_put_and_unite(self):
        desk = Desk(PAIRS)
        self.assertEqual(desk.put("b", (0, 7)), ((), ("b: 0 7 has 1 0 1",)))
        self.assertEqual(desk.put("a", (0,)), ((), ("a: 0 has 1 0 0",)))
        self.assertEqual(desk.unite("c", "a", "b"), ((), ("c: 0 7 has 1 0 1",)))
        self.assertEqual(desk.unite("d", "a", "a"), ((), ("d: 0 has 1 0 0",)))
        self.assertEqual(desk.lines, ("a: 0 has 1 0 0", "b: 0 7 has 1 0 1", "c: 0 7 has 1 0 1", "d: 0 has 1 0 0"))
        for arguments, error in [
            (("a", (1,)), InvalidOperation), (("A", ()), InvalidOperation), ((None, ()), InvalidOperation), (("e", ()), InvalidLot), (("e", (10,)), InvalidLot),
            (("e", (1, 1)), InvalidLot), (("e", [1]), InvalidLot),
        ]:
            self.refuses(desk, desk.put, arguments, error)
        for arguments, error, name in [
            (("a", "z", "y"), InvalidOperation, None), (("", "z", "y"), InvalidOperation, None), (("e", "z", "y"), UnknownName, "z"), (("e", "a", "y"), UnknownName, "y"),
            (("e", "a", None), UnknownName, None), (("e", ["a"], "y"), UnknownName, ["a"]),
        ]:
            told = self.refuses(desk, desk.unite, arguments, error)
            if error is UnknownName:
                self.assertEqual(told.name, name)
        desk.put("e", (1, 2))
        desk.put("f", (1, 3))
        for call, arguments, error in [
            (desk.put, ("g", (1,)), TooMany), (desk.put, ("g", ()), InvalidLot), (desk.put, ("a", (1,)), InvalidOperation), (desk.unite, ("g", "a", "b"), TooMany),
            (desk.unite, ("g", "a", "z"), UnknownName), (desk.unite, ("f", "a", "b"), InvalidOperation),
        ]:
            told = self.refuses(desk, call, arguments, error)
            if error is TooMany:
                self.assertEqual(told.limit, 6)

    def refuses(self, desk, call, arguments, error):
        before = all_of(desk)
        told = error_of(call, *arguments)
        self.assertIs(type(told), error, arguments)
        self.assertEqual(all_of(desk), before)
        return told

    def test_toggle_and_drop(self):
        desk = filled()
        self.assertEqual(desk.toggle("b", 0), (("b: 0 7 has 1 0 0 1",), ("b: 7 has 1 0 0 0",)))
        self.refuses(desk, desk.toggle, ("b", 7), InvalidOperation)
        self.assertEqual(desk.toggle("b", 3)[1], ("b: 3 7 has 1 1 0 0",))
        self.assertEqual(self.refuses(desk, desk.toggle, ("z", 8), UnknownName).name, "z")
        for point in [8, -1, True, None, "0", (0, 1)]:
            self.assertIs(self.refuses(desk, desk.toggle, ("a", point), InvalidNumber).given, point)
        self.assertEqual(desk.drop("a"), (("a: 0 3 5 6 has 1 0 3 0",), ()))
        self.assertEqual(self.refuses(desk, desk.drop, ("a",), UnknownName).name, "a")
        self.assertEqual(error_of(desk.lot_named, "a").name, "a")
        self.assertEqual((desk.names, desk.changes), (("b",), 5))

    def test_rename(self):
        desk = filled()
        self.assertEqual(desk.rename({"a": "b", "b": "a"}), (desk_lines("a", "b"), desk_lines("b", "a")))
        self.assertEqual(desk.rename({"a": "a", "b": "b"}), ((), ()))
        self.assertEqual(desk.changes, 4)
        for names in [
            {}, {"a": "c"}, {"a": "c", "b": "c"}, {"a": "c", "b": "d", "z": "e"}, {"a": "c", "z": "d"}, {"a": "A", "b": "c"}, {"a": None, "b": "c"}, {"a": ["c"], "b": "c"}, None,
            [("a", "c"), ("b", "d")], (("a", "c"), ("b", "d")), {"a": "c", True: "d"}, {"a": 1, "b": 2}, {1: "c", 2: "d"}, "ab", {"a": "c", "b": ""},
        ]:
            self.refuses(desk, desk.rename, (names,), InvalidOperation)
        names = {"b": "zz", "a": "b"}
        desk.rename(names)
        self.assertEqual((names, desk.names), ({"b": "zz", "a": "b"}, ("b", "zz")))
        names["b"] = "y"
        self.assertEqual(desk.names, ("b", "zz"))
        empty = Desk(CUBE)
        self.assertEqual((empty.rename({}), empty.changes), (((), ()), 1))
        self.refuses(empty, empty.rename, ({"a": "b"},), InvalidOperation)

    def test_fuse(self):
        desk = filled()
        self.assertEqual(desk.fuse(((1, 3), (2,))), (desk_lines("a", "b"), ("a: 0 3 5 6 has 1 0 3", "b: 0 7 has 1 1 0")))
        self.assertEqual(desk.scheme, fused(CUBE, ((1, 3), (2,))))
        self.refuses(desk, desk.fuse, (((1, 3), (2,)),), InvalidParting)
        self.assertEqual(desk.undo(), (("a: 0 3 5 6 has 1 0 3", "b: 0 7 has 1 1 0"), desk_lines("a", "b")))
        self.refuses(desk, desk.fuse, (((1,), (2, 3)),), InvalidOperation)
        for parting in [((1, 2),), ((3,), (1, 2)), [(1, 2), (3,)], None, ((True, 2), (3,)), ()]:
            self.refuses(desk, desk.fuse, (parting,), InvalidParting)
        self.assertEqual(desk.redo()[1], ("a: 0 3 5 6 has 1 0 3", "b: 0 7 has 1 1 0"))

    def test_shuffle(self):
        draw = random.Random(20)
        for scheme in [CUBE, PAIRS, Scheme.by_ring(6)]:
            desk, whole = Desk(scheme), list(range(scheme.size))
            lot = tuple(sorted(draw.sample(whole, 4)))
            desk.put("a", lot)
            for _ in range(5):
                before, old = desk.scheme.table, desk.lot_named("a")
                move = tuple(draw.sample(whole, len(whole)))
                desk.shuffle(move)
                for x in whole:
                    for y in whole:
                        self.assertEqual(desk.scheme.table[move[x]][move[y]], before[x][y])
                self.assertEqual(desk.lot_named("a"), tuple(sorted([move[x] for x in old])))
                self.assertEqual(inner_counts(desk.scheme, desk.lot_named("a")), inner_counts(scheme, lot))
            for move in [whole, tuple(whole[:-1]), tuple(whole[1:] + [0, 1]), tuple(whole[:-1] + [0]), None, (True,) + tuple(whole[1:])]:
                self.refuses(desk, desk.shuffle, (move,), InvalidMoves)

    def test_undo_and_redo(self):
        desk = filled()
        self.assertEqual(desk.undo(many=0), ((), ()))
        self.assertEqual(desk.undo(many=2), (desk_lines("a", "b"), ()))
        self.assertEqual((desk.changes, desk.lines), (0, ()))
        for call in [desk.undo, desk.redo]:
            for many in [-1, True, None, (1, 1), "1", LONG, [1]]:
                error = error_of(lambda: call(many=many))
                self.assertIs(type(error), InvalidNumber)
                self.assertIs(error.given, many)
            for many in [3, 10 ** 60 - 1]:
                error = error_of(lambda: call(many=many))
                self.assertEqual((type(error), error.wanted), (NothingToUndo, many))
            self.assertRaises(TypeError, call, 1)
        self.assertEqual(error_of(desk.undo).wanted, 1)
        self.assertEqual(desk.redo(), ((), desk_lines("a")))
        self.assertEqual(error_of(lambda: desk.redo(many=2)).wanted, 2)
        self.assertEqual(desk.redo(many=1), ((), desk_lines("b")))
        self.assertEqual(error_of(desk.redo).wanted, 1)
        desk.undo()
        desk.rename({"a": "a"})
        self.assertEqual(error_of(desk.redo).wanted, 1)
        self.assertEqual((desk.redo(many=0), desk.changes), (((), ()), 2))

    def test_pledges_are_not_asked(self):
        desk = filled()
        desk.demand(("degree", "a", 1))
        desk.waive(("degree", "a", 1))
        desk.toggle("a", 1)
        self.assertEqual(desk.undo(many=2)[1], desk_lines("a"))
        self.assertEqual(desk.pledges, (("degree", "a", 1),))
        self.assertEqual(desk.redo(many=2)[0], desk_lines("a"))
        self.assertEqual(desk.pledges, ())


def desk_lines(*names):
    """The lines of the lots of `filled`, the first one with the four points under the first name."""
    told = {"a": "0 3 5 6 has 1 0 3 0", "b": "0 7 has 1 0 0 1"}
    if names == ("b", "a"):
        return "a: " + told["b"], "b: " + told["a"]
    return tuple([f"{name}: {told[name]}" for name in names])


class Blocks(unittest.TestCase):

    def test_trial(self):
        desk = filled()
        desk.toggle("b", 1)
        desk.undo()
        before = all_of(desk)
        with desk.trial() as same:
            self.assertIs(same, desk)
            desk.toggle("b", 2)
            desk.undo(many=3)
            desk.put("z", (4,))
            desk.demand(("degree", "z", 0))
            desk.fuse(((1, 2, 3),))
            self.assertNotEqual(all_of(desk), before)
        self.assertEqual(all_of(desk), before)
        for error in [ValueError, KeyError, InvalidLot, KeyboardInterrupt]:
            with self.assertRaises(error):
                with desk.trial():
                    desk.drop("a")
                    raise error("x")
            self.assertEqual(all_of(desk), before)
        self.assertEqual(desk.redo()[1], ("b: 0 1 7 has 1 2/3 2/3 2/3",))

    def test_trials_in_trials(self):
        desk = filled()
        first = all_of(desk)
        trial = desk.trial()
        desk.put("c", (5,))
        second = all_of(desk)
        with trial:
            # It is as it was when the block was entered, not when the trial was made.
            desk.drop("a")
            third = all_of(desk)
            with desk.trial() as same:
                same.drop("b")
                with trial:
                    same.drop("c")
                    self.assertEqual(desk.names, ())
                self.assertEqual(desk.names, ("c",))
            self.assertEqual(all_of(desk), third)
            desk.undo(many=2)
            self.assertEqual(looks(desk)[:4], first[0][:4])
        self.assertEqual(all_of(desk), second)
        with trial:
            desk.drop("c")
        self.assertEqual(all_of(desk), second)

    def test_during(self):
        desk = filled()
        before = all_of(desk)
        self.assertEqual(desk.during(lambda same: (same is desk, same.toggle("a", 1)[1], same.changes)), (True, ("a: 0 1 3 5 6 has 1 6/5 12/5 2/5",), 3))
        self.assertEqual(all_of(desk), before)
        self.assertEqual(error_of(desk.during, lambda same: same.drop("a") and same.drop("a")).name, "a")
        self.assertEqual(all_of(desk), before)
        self.assertEqual(desk.during(lambda same: same.during(lambda again: again.drop("a")) and same.names), ("a", "b"))
        self.assertIs(desk.during(lambda same: None), None)
        self.assertEqual(desk.during(Desk.twin).changes, 2)

    def test_twin(self):
        desk = filled()
        desk.toggle("b", 1)
        desk.undo()
        twin = desk.twin()
        self.assertTrue(twin == desk and twin is not desk and all_of(twin) == all_of(desk))
        twin.redo()
        self.assertEqual((twin.names, desk.lot_named("b"), twin.lot_named("b")), (("a", "b"), (0, 7), (0, 1, 7)))
        self.assertIs(twin == desk, False)
        desk.drop("a")
        self.assertEqual((twin.names, twin.changes, desk.changes), (("a", "b"), 3, 3))
        twin.undo(many=3)
        self.assertEqual((twin.changes, desk.changes), (0, 3))
        with desk.trial():
            desk.drop("b")
            inner = desk.twin()
        self.assertEqual((inner.names, desk.names), ((), ("b",)))
        inner.put("q", (1,))
        self.assertEqual((inner.names, desk.names), (("q",), ("b",)))


class Objects(unittest.TestCase):

    def test_equality(self):
        one, other = filled(), filled()
        self.assertTrue(one == other and not one != other)
        other.rename({"a": "a", "b": "b"})
        self.assertTrue(one == other)
        for call, arguments in [
            ("toggle", ("a", 1)), ("drop", ("a",)), ("rename", ({"a": "c", "b": "b"},)), ("demand", (("degree", "a", 1),)), ("fuse", (((1, 2), (3,)),)),
            ("shuffle", ((1, 0, 2, 3, 4, 5, 6, 7),)), ("put", ("c", (1,))),
        ]:
            getattr(other, call)(*arguments)
            self.assertTrue(one != other and not one == other, call)
            other.undo()
            self.assertTrue(one == other)
        third = Desk(CUBE)
        third.put("b", (0, 7))
        third.put("a", (0, 3, 5, 6))
        self.assertTrue(one == third)
        for pledges in [(("degree", "a", 1), ("degree", "b", 1)), (("degree", "b", 1), ("degree", "a", 1))]:
            for pledge in pledges:
                (one if pledges[0] == ("degree", "a", 1) else third).demand(pledge)
        self.assertTrue(one != third)
        for value in BASE + MORE_CLOSE + [CUBE, one.lines, one.scheme, Desk, 0]:
            self.assertIs(one == value, False)
            self.assertIs(one != value, True)

    def test_members(self):
        desk = filled()
        desk.demand(("degree", "a", 1))
        desk.demand(("pairs", "a", 2, (3, 1)))
        for value, wanted in [
            ("a: 0 3 5 6 has 1 0 3 0", True), ("b: 0 7 has 1 0 0 1", True), (("degree", "a", 1), True), (("pairs", "a", 2, (3, 1)), True), ("a", False), ("", False),
            (("degree", "a", True), False), (["degree", "a", 1], False), (("degree", "a", 2), False), (("degree", "a"), False), (("pairs", "a", 2, (True, 1)), False), ((0, 7), False),
            (0, False), (None, False), (CUBE, False), (desk, False), ({}, False),
        ]:
            self.assertIs(value in desk, wanted, value)
        for value in BASE + MORE_CLOSE:
            self.assertIs(value in desk, False)
        self.assertEqual((len(desk), list(desk), tuple(desk)), (2, list(desk.lines), desk.lines))
        self.assertEqual(str(desk), "desk of 8 points, 2 lots, 2 pledges")
        self.assertEqual(str(Desk(Scheme.lone(1))), "desk of 1 points, 0 lots, 0 pledges")
        self.assertEqual((list(Desk(PAIRS)), len(Desk(PAIRS))), ([], 0))

    def test_properties(self):
        desk = filled()
        for name in ["scheme", "names", "lines", "pledges", "changes"]:
            self.assertRaises(AttributeError, setattr, desk, name, ())
        self.assertTrue(all(isinstance(told, tuple) for told in [desk.names, desk.lines, desk.pledges]))
        self.assertIs(type(desk.changes), int)
        self.assertTrue(isinstance(desk.scheme, Scheme) and desk.scheme == CUBE)

    def test_wrong_values(self):
        """Wrong values of all kinds at each place of each method; none of them changes anything."""
        desk = filled()
        before = all_of(desk)
        names = NO_NAMES
        lots, pledges = lot_place((0, 1), 8).wrong, [value for value in BASE + MORE_CLOSE if value not in right_pledges()]
        points = [value for value in BASE if value != 1]
        partings, moved = parting_place(((1, 3), (2,)), 1, 3).wrong, moves(((0, 1),)).wrong
        for call, wrong, arguments, error in [
            (desk.put, names, (..., (0,)), InvalidOperation), (desk.put, lots, ("c", ...), InvalidLot), (desk.unite, names, (..., "a", "b"), InvalidOperation),
            (desk.unite, names, ("c", ..., "b"), UnknownName), (desk.unite, names, ("c", "a", ...), UnknownName), (desk.toggle, names, (..., 1), UnknownName),
            (desk.toggle, points, ("a", ...), InvalidNumber), (desk.drop, names, (...,), UnknownName), (desk.rename, BASE, (...,), InvalidOperation),
            (desk.fuse, partings, (...,), InvalidParting), (desk.shuffle, moved, (...,), InvalidMoves), (desk.demand, pledges, (...,), InvalidPledge),
            (desk.waive, pledges, (...,), InvalidOperation), (desk.lot_named, names, (...,), UnknownName), (Desk, scheme_place(CUBE).wrong, (...,), InvalidScheme),
        ]:
            for value in [value for value in wrong if not isinstance(value, Scheme) or call != Desk]:
                told = error_of(call, *[value if argument is ... else argument for argument in arguments])
                self.assertIs(type(told), error, (call, value))
                if error is UnknownName:
                    self.assertIs(told.name, value)
        self.assertEqual(all_of(desk), before)


def right_pledges():
    return [right for judge, _, told in MORE_JUDGES if judge is is_pledge for right in told]


class Histories(unittest.TestCase):

    def test_histories(self):
        found = Counter()
        for seed in range(60):
            draw = random.Random(seed)
            scheme = draw.choice([CUBE, PAIRS, SQUARE, Scheme.by_ring(6), Scheme.by_places(4, 2), Scheme.lone(1), Scheme.by_sharing(6, 3)])
            desk, model = Desk(scheme), Model(scheme.table)
            for _ in range(40):
                found.update([self.one_change(draw, desk, model)])
                self.check(desk, model)
        self.assertTrue(all(found[word] >= 5 for word in CHANGES + ["refused", "undo", "redo", "trial"]), found)

    def check(self, desk, model):
        now = model.now
        self.assertEqual((desk.scheme.table, desk.names, desk.lines, desk.pledges), (now.table, tuple(sorted(now.lots)), now.lines(), now.pledges))
        self.assertEqual((desk.changes, len(desk), list(desk)), (model.at, len(now.pledges), list(now.lines())))
        self.assertEqual(error_of(desk.twin().redo) is None, model.at + 1 < len(model.states))
        self.assertEqual(str(desk), f"desk of {len(now.table)} points, {len(now.lots)} lots, {len(now.pledges)} pledges")

    def one_change(self, draw, desk, model):
        word = draw.choice(CHANGES * 2 + ["undo", "redo", "trial"] + ["demand", "toggle", "put"] * 2)
        if word in ("undo", "redo"):
            many, most = draw.randint(0, 4), model.at if word == "undo" else len(model.states) - model.at - 1
            if many > most:
                error = error_of(lambda: getattr(desk, word)(many=many))
                self.assertEqual((type(error), error.wanted), (NothingToUndo, many))
                return "none"
            self.assertEqual(getattr(desk, word)(many=many), model.step(-many if word == "undo" else many))
            return word
        if word == "trial":
            states, at, before = list(model.states), model.at, all_of(desk)
            with desk.trial():
                for _ in range(3):
                    self.one_change(draw, desk, model)
            model.states, model.at = states, at
            self.assertEqual(all_of(desk), before)
            return word
        told = getattr(self, word)(draw, desk, model.now)
        if told is None:
            return "none"
        state, arguments = told
        broken = state.broken()
        if broken:
            before = looks(desk)
            error = error_of(getattr(desk, word), *arguments)
            self.assertEqual((type(error), error.reason), (Refused, broken))
            self.assertEqual(looks(desk), before)
            return "refused"
        self.assertEqual(getattr(desk, word)(*arguments), model.change(state))
        return word

    def put(self, draw, desk, now):
        name = draw.choice(NAMES)
        lot = tuple(sorted(draw.sample(range(len(now.table)), draw.randint(1, len(now.table)))))
        if name in now.lots or len(now.lots) == 6:
            self.assertIs(type(error_of(desk.put, name, lot)), InvalidOperation if name in now.lots else TooMany)
            return None
        return now.with_lot(name, lot), (name, lot)

    def unite(self, draw, desk, now):
        name, one, other = draw.choice(NAMES), draw.choice(NAMES), draw.choice(NAMES)
        if name in now.lots or one not in now.lots or other not in now.lots or len(now.lots) == 6:
            error = InvalidOperation if name in now.lots else TooMany if one in now.lots and other in now.lots else UnknownName
            self.assertIs(type(error_of(desk.unite, name, one, other)), error)
            return None
        return now.with_lot(name, set(now.lots[one]) | set(now.lots[other])), (name, one, other)

    def toggle(self, draw, desk, now):
        if not now.lots:
            return None
        name, point = draw.choice(sorted(now.lots)), draw.randrange(len(now.table))
        lot = set(now.lots[name]) ^ {point}
        if not lot:
            self.assertIs(type(error_of(desk.toggle, name, point)), InvalidOperation)
            return None
        return now.with_lot(name, lot), (name, point)

    def drop(self, draw, desk, now):
        if not now.lots or draw.random() < 0.5:
            return None
        name = draw.choice(sorted(now.lots))
        return now.but(lots={other: lot for other, lot in now.lots.items() if other != name}), (name,)

    def rename(self, draw, desk, now):
        old = sorted(now.lots)
        new = draw.sample(old, len(old)) if draw.random() < 0.5 else draw.sample(NAMES, len(old))
        names = dict(zip(old, new))
        return now.but(lots={names[name]: lot for name, lot in now.lots.items()}), (names,)

    def fuse(self, draw, desk, now):
        told = all_fusions(counts_of(Scheme(now.table)))
        if draw.random() < 0.6 or not told[0]:
            return None
        parting = draw.choice(told)
        self.assertIs(is_parting(counts_of(desk.scheme), parting), True)
        names = {0: 0, **{kind: at + 1 for at, lot in enumerate(parting) for kind in lot}}
        return now.but(table=tuple([tuple([names[kind] for kind in row]) for row in now.table])), (parting,)

    def shuffle(self, draw, desk, now):
        size = len(now.table)
        move = tuple(draw.sample(range(size), size))
        table = [[0] * size for _ in range(size)]
        for x in range(size):
            for y in range(size):
                table[move[x]][move[y]] = now.table[x][y]
        lots = {name: tuple(sorted([move[x] for x in lot])) for name, lot in now.lots.items()}
        return now.but(table=tuple(map(tuple, table)), lots=lots), (move,)

    def demand(self, draw, desk, now):
        if not now.lots:
            return None
        name, other = draw.choice(sorted(now.lots)), draw.choice(sorted(now.lots) + NAMES[:1])
        lot, most = now.lots[name], max(now.table[0])
        kinds = Counter(now.table[x][y] for x in lot for y in lot)
        kind = draw.randint(0, most)
        pledge = draw.choice([
            ("keeps", name, tuple(sorted(kind for kind in kinds if kind))), ("degree", name, len(kinds) - 1), ("pairs", name, kind, as_own(Fraction(kinds[kind], len(lot)))),
            ("meets", name, other, len(set(lot) & set(now.lots.get(other, ())))), ("degree", name, draw.randint(0, 2)), ("keeps", name, tuple(range(1, min(10, most + draw.randint(0, 1)) + 1))),
        ])
        if pledge in now.pledges or len(now.pledges) == 10:
            self.assertIs(type(error_of(desk.demand, pledge)), InvalidOperation if pledge in now.pledges else TooMany)
            return None
        return now.but(pledges=now.pledges + (pledge,)), (pledge,)

    def waive(self, draw, desk, now):
        if not now.pledges:
            return None
        pledge = draw.choice(now.pledges)
        return now.but(pledges=tuple([other for other in now.pledges if other != pledge])), (pledge,)

    def test_shuffles_keep_pledges(self):
        draw = random.Random(99)
        desk = filled()
        for pledge in [("keeps", "a", (2,)), ("degree", "b", 1), ("meets", "a", "b", 1), ("pairs", "b", 3, 1)]:
            desk.demand(pledge)
        for _ in range(20):
            desk.shuffle(tuple(draw.sample(range(8), 8)))
        self.assertEqual((desk.changes, len(desk)), (26, 4))
        desk.undo(many=20)
        self.assertEqual((desk.lines, desk.scheme), (desk_lines("a", "b"), CUBE))

    def test_long_history(self):
        desk = Desk(Scheme.by_ring(5))
        desk.put("a", (0,))
        for step in range(2000):
            desk.toggle("a", 1 + step % 4)
        self.assertEqual(desk.changes, 2001)
        last = desk.lines
        desk.undo(many=2001)
        self.assertEqual(desk.redo(many=2001), ((), last))


CHANGES = ["put", "unite", "toggle", "drop", "rename", "fuse", "shuffle", "demand", "waive"]


if __name__ == "__main__":
    unittest.main()
