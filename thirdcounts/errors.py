"""All errors of the package."""


class ThirdError(ValueError):
    """What all errors about the form of a value derive from."""


class InvalidTable(ThirdError):
    """A value is no table, or no row, of numbers."""


class InvalidPoly(ThirdError):
    """A value is no polynomial."""


class InvalidScheme(ThirdError):
    """A value is no scheme."""


class InvalidCounts(ThirdError):
    """A value is no counts."""


class InvalidWeb(ThirdError):
    """A value is no web."""


class InvalidKinds(ThirdError):
    """A value is no set, or no sum, of kinds."""


class InvalidLot(ThirdError):
    """A value is no lot of points."""


class InvalidOrder(ThirdError):
    """A value is no order of kinds or of eigenspaces."""


class InvalidParting(ThirdError):
    """A value is no parting of kinds or of points."""


class InvalidMoves(ThirdError):
    """A value is no move of points, or no tuple of moves."""


class InvalidPledge(ThirdError):
    """A value is no pledge."""


class InvalidOperation(ThirdError):
    """Values that are valid, each alone, do not go together."""


class ParseError(ThirdError):
    """A text is not the text of a value."""

    def __init__(self, spot):
        self.spot = spot


class InvalidNumber(IndexError):
    """A value is no number, or one out of bounds."""

    def __init__(self, given):
        self.given = given


class UnknownName(KeyError):
    """Nothing has this name."""

    def __init__(self, name):
        self.name = name


class NothingToUndo(RuntimeError):
    """There are fewer changes to take back, or to do again."""

    def __init__(self, wanted):
        self.wanted = wanted


class TooMany(OverflowError):
    """A result would be above this limit."""

    def __init__(self, limit):
        self.limit = limit


class Refused(ArithmeticError):
    """A result does not exist, for this reason."""

    def __init__(self, reason):
        self.reason = reason
