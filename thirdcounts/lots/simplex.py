"""The greatest sum of gains under bounds, exact, with the weights of the bounds that show that it is the greatest."""

from thirdcounts.base.numbers import fraction
from thirdcounts.base.wholes import with_cleared


def _entering(goal, width):
    """The first column that still adds to the sum, `None` if none does."""
    for column in range(width):
        if goal[column] < 0:
            return column
    return None


def _leaving(rows, basis, column):
    """The row that bounds the column most; of several ones that of the first variable, so that no basis comes twice."""
    best = None
    for place, variable in enumerate(basis):
        row = rows[place]
        if row[column] > 0:
            if best is None:
                best = place
            else:
                left, right = row[-1] * rows[best][column], rows[best][-1] * row[column]
                if left < right or left == right and variable < basis[best]:
                    best = place
    return best


def greatest(bounds, gains):
    """The variables, at least 0, with the greatest sum of gains for which no bound is above 1, and the weights.

    The bounds are rows of integers, a factor for each variable, and so are the gains. There must be a
    greatest sum. The weights, one for each bound, are at least 0, and the bounds,
    so many times each, add up to no less than the gains.
    """
    many, width = len(bounds), len(gains)
    rows = []
    for place, bound in enumerate(bounds):
        rows.append(list(bound) + [0] * place + [1] + [0] * (many - place - 1) + [1])
    rows.append([-gain for gain in gains] + [0] * (many + 1))
    basis = list(range(width, width + many))
    divisor = 1
    column = _entering(rows[-1], width + many)
    while column is not None:
        place = _leaving(rows, basis, column)
        # All entries of a basis are over one common bottom, the last pivot.
        rows = with_cleared(rows, place, column, divisor)
        divisor = rows[place][column]
        basis[place] = column
        column = _entering(rows[-1], width + many)
    variables = [(0, 1)] * (width + many)
    for place, variable in enumerate(basis):
        variables[variable] = fraction(rows[place][-1], divisor)
    weights = [fraction(weight, divisor) for weight in rows[-1][width:width + many]]
    return variables[:width], weights
