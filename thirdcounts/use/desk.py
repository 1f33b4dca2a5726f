"""A desk: a scheme and named lots of its points, pledges that stay true, and changes that can be taken back."""

from thirdcounts.base.numbers import as_pair, is_between, is_integer, is_name, is_number, number_text
from thirdcounts.errors import (
    InvalidLot, InvalidMoves, InvalidNumber, InvalidOperation, InvalidPledge, NothingToUndo, Refused, TooMany,
    UnknownName
)
from thirdcounts.lots.counting import is_lot, told_degree, told_inner_counts
from thirdcounts.lots.meeting import common_number, keeps
from thirdcounts.made.fusions import fused
from thirdcounts.pairs.schemes import MAX_KINDS, is_ascending, is_sequence, need_point, need_scheme

MAX_LOTS = 6
MAX_PLEDGES = 10


def _is_many(value):
    return is_integer(value) and value >= 0


def is_pledge(value):
    """Whether the value is a pledge."""
    if not isinstance(value, tuple) or len(value) not in (3, 4) or not is_name(value[1]):
        return False
    word, last = value[0], value[-1]
    if len(value) == 3:
        return word == "keeps" and is_ascending(last, 1, MAX_KINDS) or word == "degree" and _is_many(last)
    if word == "meets":
        return is_name(value[2]) and _is_many(last)
    return word == "pairs" and is_between(value[2], 0, MAX_KINDS) and is_number(last)


def _line_of(present, name, lot):
    points = " ".join([f"{point}" for point in lot])
    numbers = " ".join([number_text(number) for number in told_inner_counts(present, lot)])
    return f"{name}: {points} has {numbers}"


class Page:
    """What a desk has between two changes: the scheme, the lots by their names, the pledges and the lines."""

    def __init__(self, present, by_name, demands):
        self.present = present
        self.by_name = by_name
        self.demands = demands
        self.contents = (present.table, by_name, demands)
        self.texts = tuple([_line_of(present, name, by_name[name]) for name in sorted(by_name)])


class Mark:
    """What a desk had when a trial began, and the mark of the trial around it."""

    def __init__(self, page, done, undone, before):
        self.page = page
        self.done = done
        self.undone = undone
        self.before = before


def _holds(page, pledge):
    """Whether a pledge holds."""
    word, name, last = pledge[0], pledge[1], pledge[-1]
    present, lots = page.present, page.by_name
    if name not in lots:
        return False
    if word == "keeps":
        return all([kind <= present.most for kind in last]) and keeps(present, last, lots[name])
    if word == "degree":
        return told_degree(present, lots[name]) == last
    if word == "meets":
        return pledge[2] in lots and common_number(lots[name], lots[pledge[2]]) == last
    return pledge[2] <= present.most and told_inner_counts(present, lots[name])[pledge[2]] == as_pair(last)


def _news(before, behind):
    """The lines that are there no more, and those that were not there before."""
    gone = tuple([line for line in before.texts if line not in behind.texts])
    return gone, tuple([line for line in behind.texts if line not in before.texts])


class Desk:
    """A scheme with named lots."""

    def __init__(self, scheme):
        need_scheme(scheme)
        self._page = Page(scheme, {}, ())
        self._done = ()
        self._undone = ()
        self._before = None

    def _turn_to(self, page):
        """Make a change, unless a pledge would not hold."""
        for pledge in page.demands:
            if not _holds(page, pledge):
                raise Refused(pledge)
        news = _news(self._page, page)
        self._done = self._done + (self._page,)
        self._undone = ()
        self._page = page
        return news

    def _with_lots(self, by_name):
        return self._turn_to(Page(self._page.present, by_name, self._page.demands))

    def _with_lot(self, name, lot):
        by_name = dict(self._page.by_name)
        by_name[name] = lot
        return self._with_lots(by_name)

    def _need_new(self, name):
        if not is_name(name) or name in self._page.by_name:
            raise InvalidOperation("this is no name that no lot has")

    def _need_known(self, name):
        if not is_name(name) or name not in self._page.by_name:
            raise UnknownName(name)

    def _need_room(self):
        if len(self._page.by_name) == MAX_LOTS:
            raise TooMany(MAX_LOTS)

    def put(self, name, lot):
        """Put a further lot on the desk."""
        self._need_new(name)
        if not is_lot(lot, self._page.present.size):
            raise InvalidLot("this is no ascending tuple of at least one point")
        self._need_room()
        return self._with_lot(name, lot)

    def unite(self, name, one, other):
        """Put the lot of all points of two lots on the desk."""
        self._need_new(name)
        self._need_known(one)
        self._need_known(other)
        self._need_room()
        points = self._page.by_name[one] + self._page.by_name[other]
        return self._with_lot(name, tuple(sorted(set(points))))

    def toggle(self, name, point):
        """Put a point into a lot, or take it out if it is there."""
        self._need_known(name)
        need_point(point, self._page.present.size)
        lot = self._page.by_name[name]
        if lot == (point,):
            raise InvalidOperation("no point would be left")
        if point in lot:
            return self._with_lot(name, tuple([other for other in lot if other != point]))
        return self._with_lot(name, tuple(sorted(lot + (point,))))

    def drop(self, name):
        """Take a lot off the desk."""
        self._need_known(name)
        lots = self._page.by_name
        return self._with_lots({other: lots[other] for other in lots if other != name})

    def rename(self, names):
        """Give the lots other names."""
        lots = self._page.by_name
        if not isinstance(names, dict) or len(names) != len(lots) or not all([name in names for name in lots]):
            raise InvalidOperation("this is no dict from the names on the desk")
        given = [names[name] for name in lots]
        if not all([is_name(name) for name in given]) or len(set(given)) < len(given):
            raise InvalidOperation("these are no different names")
        return self._with_lots({names[name]: lots[name] for name in lots})

    def fuse(self, parting):
        """Put the kinds of the scheme together."""
        page = self._page
        return self._turn_to(Page(fused(page.present, parting), page.by_name, page.demands))

    def shuffle(self, points):
        """Put points[x] in the place of each point x, in the scheme and in the lots."""
        page = self._page
        if not is_sequence(points, page.present.size):
            raise InvalidMoves("this is no move of the points")
        back = tuple([points.index(point) for point in range(len(points))])
        lots = page.by_name
        moved = {name: tuple(sorted([points[point] for point in lots[name]])) for name in lots}
        return self._turn_to(Page(page.present.renamed(back), moved, page.demands))

    def demand(self, pledge):
        """Add a pledge that holds."""
        page = self._page
        if not is_pledge(pledge):
            raise InvalidPledge("this is no pledge")
        if pledge in page.demands:
            raise InvalidOperation("the pledge is there already")
        if len(page.demands) == MAX_PLEDGES:
            raise TooMany(MAX_PLEDGES)
        return self._turn_to(Page(page.present, page.by_name, page.demands + (pledge,)))

    def waive(self, pledge):
        """Take a pledge away."""
        page = self._page
        if not is_pledge(pledge) or pledge not in page.demands:
            raise InvalidOperation("the pledge is not there")
        left = tuple([other for other in page.demands if other != pledge])
        return self._turn_to(Page(page.present, page.by_name, left))

    def _step(self, steps):
        """Go so many changes on, or back for `steps` below 0."""
        pages = self._done + (self._page,) + self._undone
        place = len(self._done) + steps
        news = _news(self._page, pages[place])
        self._done = pages[:place]
        self._page = pages[place]
        self._undone = pages[place + 1:]
        return news

    def undo(self, *, many=1):
        """Take back so many changes."""
        if not _is_many(many):
            raise InvalidNumber(many)
        if many > len(self._done):
            raise NothingToUndo(many)
        return self._step(-many)

    def redo(self, *, many=1):
        """Do so many changes again that were taken back."""
        if not _is_many(many):
            raise InvalidNumber(many)
        if many > len(self._undone):
            raise NothingToUndo(many)
        return self._step(many)

    def trial(self):
        """The desk for a `with` block, behind which it is as it was."""
        return self

    def __enter__(self):
        self._before = Mark(self._page, self._done, self._undone, self._before)
        return self

    def __exit__(self, kind, value, trace):
        mark = self._before
        self._page = mark.page
        self._done = mark.done
        self._undone = mark.undone
        self._before = mark.before

    def during(self, call):
        """What a call gives for the desk, which is as it was behind it."""
        with self.trial() as same:
            return call(same)

    def twin(self):
        """An independent copy, with all changes that can be taken back and done again."""
        copied = Desk(self._page.present)
        copied._page = self._page
        copied._done = self._done
        copied._undone = self._undone
        return copied

    def lot_named(self, name):
        """The lot with a name."""
        self._need_known(name)
        return self._page.by_name[name]

    @property
    def scheme(self):
        """The present scheme."""
        return self._page.present

    @property
    def names(self):
        """The ascending tuple of the names."""
        return tuple(sorted(self._page.by_name))

    @property
    def lines(self):
        """The tuple of the lines, by ascending names."""
        return self._page.texts

    @property
    def pledges(self):
        """The pledges, in the order of demands."""
        return self._page.demands

    @property
    def changes(self):
        """How many changes can be taken back."""
        return len(self._done)

    def _sizes(self):
        page = self._page
        return f"{page.present.size} points, {len(page.by_name)} lots, {len(page.demands)} pledges"

    def __contains__(self, value):
        return value in self._page.texts or is_pledge(value) and value in self._page.demands

    def __len__(self):
        return len(self._page.demands)

    def __iter__(self):
        return iter(self._page.texts)

    def __eq__(self, value):
        return isinstance(value, Desk) and self._page.contents == value._page.contents

    def __str__(self):
        return f"desk of {self._sizes()}"
