"""Schemes, counts and webs that several test files use, made without the package as far as this goes."""

import random
from fractions import Fraction
from functools import cache
from itertools import combinations

from thirdcounts.ladder.ladders import counts_of_array
from thirdcounts.pairs.counts import counts_of
from thirdcounts.pairs.schemes import Scheme
from thirdcounts.webs.walks import Web

PAIRS = Scheme.by_sharing(5, 2)
SQUARE = Scheme.by_places(2, 3)
CUBE = Scheme.by_places(3, 2)

TEN = (((1, 0, 0), (0, 3, 0), (0, 0, 6)), ((0, 1, 0), (1, 0, 2), (0, 2, 4)), ((0, 0, 1), (0, 1, 2), (1, 2, 3)))
SEVEN = (((1, 0, 0), (0, 4, 0), (0, 0, 2)), ((0, 1, 0), (1, 1, 2), (0, 2, 0)), ((0, 0, 1), (0, 4, 0), (1, 0, 1)))
PRISM_TABLE = (
    (0, 1, 1, 2, 3, 3), (1, 0, 1, 3, 2, 3), (1, 1, 0, 3, 3, 2), (2, 3, 3, 0, 1, 1), (3, 2, 3, 1, 0, 1), (3, 3, 2, 1, 1, 0)
)
BENT = ((0, 1, 1, 2, 2), (1, 0, 2, 1, 2), (1, 2, 0, 2, 1), (2, 1, 2, 0, 2), (2, 2, 1, 2, 0))

FIVE_RING = Web(5, ((0, 1), (0, 4), (1, 2), (2, 3), (3, 4)))
PRISM = Web(6, ((0, 1), (0, 2), (0, 3), (1, 2), (1, 4), (2, 5), (3, 4), (3, 5), (4, 5)))
STAR = Web(4, ((0, 1), (0, 2), (0, 3)))
FOUR = Web(4, ((0, 1), (2, 3)))


def beside(one, other):
    """The kinds table of the pairs of points of two tables."""
    size, most = len(other), max(map(max, other))
    points = [(x, y) for x in range(len(one)) for y in range(size)]
    return tuple([tuple([one[x][z] * (most + 1) + other[y][w] for z, w in points]) for x, y in points])


def inside(one, other):
    """The kinds table with each point of the other table replaced by the points of one table."""
    most = max(map(max, one))
    points = [(a, b) for a in range(len(other)) for b in range(len(one))]
    return tuple([tuple([one[b][e] if a == c else most + other[a][c] for c, e in points]) for a, b in points])


def in_group(moduli, lots):
    """The kinds table of the elements of a group, by the lot of the difference."""
    points = [()]
    for modulus in moduli:
        points = [(*point, entry) for point in points for entry in range(modulus)]
    kinds = {points[0]: 0}
    for at, lot in enumerate(lots):
        kinds.update({points[member]: at + 1 for member in lot})
    return tuple([
        tuple([kinds[tuple([(a - b) % m for a, b, m in zip(one, other, moduli)])] for other in points]) for one in points
    ])


TWISTED = in_group((4, 4), ((1, 3, 4, 5, 12, 15), (2, 6, 7, 8, 9, 10, 11, 13, 14)))


@cache
def tables():
    """The kinds tables of many schemes."""
    found = [Scheme.by_sharing(*sizes).table for sizes in [(4, 2), (5, 2), (6, 2), (6, 3), (7, 2), (4, 0), (4, 1), (5, 3)]]
    found += [Scheme.by_places(*sizes).table for sizes in [(2, 2), (2, 3), (3, 2), (2, 4), (4, 2), (3, 3), (1, 5), (5, 2)]]
    found += [Scheme.by_ring(size).table for size in range(1, 14)] + [Scheme.by_ring(20).table, PRISM_TABLE, TWISTED]
    small = [Scheme.lone(2).table, Scheme.lone(3).table, Scheme.by_ring(4).table, Scheme.by_ring(5).table, CUBE.table, PAIRS.table]
    for one in small:
        for other in small:
            if len(one) * len(other) <= 20:
                found.append(inside(one, other))
                if (max(one[0]) + 1) * (max(other[0]) + 1) <= 11:
                    found.append(beside(one, other))
    return tuple(found)


@cache
def schemes():
    return tuple([Scheme(table) for table in tables()])


ARRAYS = [
    ((), ()), ((1,), (1,)), ((3,), (1,)), ((4, 1), (1, 4)), ((3, 2), (1, 1)), ((6, 2), (1, 4)), ((3, 2, 1), (1, 2, 3)),
    ((16, 5), (1, 8)), ((10, 5), (1, 2)), ((5, 4, 1), (1, 2, 5)), ((3, 2, 2), (1, 1, 3)), ((7, 6, 4), (1, 3, 7)),
    ((3, 2, 2, 1), (1, 1, 2, 3)), ((10 ** 6,), (1,)), ((27, 10, 1), (1, 10, 27)), ((57, 56), (1, 1)),
]


@cache
def plain_counts():
    """The counts of many schemes, and counts of no scheme, each once."""
    found = [counts_of(scheme) for scheme in schemes()] + [SEVEN, TEN] + [counts_of_array(array) for array in ARRAYS]
    return tuple(sorted(set(found)))


@cache
def integer_counts():
    """Those with integers as eigenvalues, told without the package: by walking through all possible rows."""
    return tuple([counts for counts in plain_counts() if len(rows_by_search(counts)) == len(counts)])


@cache
def rows_by_search(counts):
    """All rows of integers that tell all products, descending: kind by kind, each divisor of what the kind's own table tells."""
    size = len(counts)
    valencies = [counts[0][kind][kind] for kind in range(size)]
    found = [(1,)]
    for kind in range(1, size):
        values = integer_values(counts, kind)
        found = [(*row, value) for row in found for value in values]
        found = [row for row in found if is_possible(counts, row)]
    assert all(abs(entry) <= valency for row in found for entry, valency in zip(row, valencies))
    return tuple(sorted(found, reverse=True))


def integer_values(counts, kind):
    """The integers z for which the table of a kind, less z times the idle table, has the determinant 0."""
    table = [[Fraction(counts[k][kind][j]) for j in range(len(counts))] for k in range(len(counts))]
    top = counts[0][kind][kind]
    if top > 10 ** 4:
        zeros = [z for z in (top, -1, 0) if determinant_of(table, z) == 0]
    else:
        zeros = [z for z in range(-top, top + 1) if determinant_of(table, z) == 0]
    return zeros


def determinant_of(table, z):
    rows = [[entry - (z if at == index else 0) for index, entry in enumerate(row)] for at, row in enumerate(table)]
    total = Fraction(1)
    while rows:
        leads = [row for row in rows if row[0] != 0]
        if not leads:
            return 0
        lead = leads[0]
        rest = [row for row in rows if row is not lead]
        total *= lead[0]
        rows = [[low - row[0] / lead[0] * high for low, high in zip(row[1:], lead[1:])] for row in rest]
    return 1 if total != 0 else 0


def is_possible(counts, row):
    """Whether the first entries of a row tell all products that they can tell."""
    size, known = len(counts), len(row)
    for i in range(known):
        for j in range(known):
            if all(counts[k][i][j] == 0 for k in range(known, size)):
                if row[i] * row[j] != sum(counts[k][i][j] * row[k] for k in range(known)):
                    return False
    return True


def web_of(size, ties):
    return Web(size, tuple(sorted(ties)))


def all_webs(size):
    """All webs of so many points."""
    pairs = list(combinations(range(size), 2))
    for marks in range(2 ** len(pairs)):
        yield Web(size, tuple([pair for at, pair in enumerate(pairs) if marks >> at & 1]))


def drawn_web(draw, size, share=0.5):
    return Web(size, tuple([pair for pair in combinations(range(size), 2) if draw.random() < share]))


def turned_web(size, steps):
    """The web round a ring whose ties are all pairs of points so many steps apart."""
    return web_of(size, {tuple(sorted((x, (x + step) % size))) for x in range(size) for step in steps if step % size})


@cache
def webs():
    """Many webs: all of at most four points, rings and drawn ones."""
    draw = random.Random(11)
    found = [web for size in range(1, 5) for web in all_webs(size)] + [FIVE_RING, PRISM]
    found += [drawn_web(draw, draw.randint(5, 9), draw.choice([0.3, 0.5, 0.8])) for _ in range(60)]
    found += [turned_web(size, steps) for size in range(3, 12) for steps in [(1,), (2,), (1, 2), (1, 3), (1, 2, 4)]]
    return tuple(found)


def tie_table(web):
    return [[1 if (min(x, y), max(x, y)) in web.ties else 0 for y in range(web.size)] for x in range(web.size)]
