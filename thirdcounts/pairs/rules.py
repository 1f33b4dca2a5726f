"""The rules that counts keep, of tables that have p(i, j; k) at the index j of the tuple i of the tuple k."""

from thirdcounts.base.numbers import is_between


def _keeps_zero(table, places):
    second, kind = places
    return table[kind][0][second] == (1 if second == kind else 0)


def _keeps_valency(table, places):
    first, second = places
    number = table[0][first][second]
    return number >= 1 if first == second else number == 0


def _keeps_exchange(table, places):
    first, second, kind = places
    return table[kind][first][second] == table[kind][second][first]


def _keeps_weight(table, places):
    first, second, kind = places
    return table[0][kind][kind] * table[kind][first][second] == table[0][first][first] * table[first][kind][second]


def _keeps_sums(table, places):
    first, kind = places
    return sum(table[kind][first]) == table[0][first][first]


def _keeps_bracket(table, places):
    first, second, third, kind = places
    kinds = range(len(table))
    left = sum([table[via][first][second] * table[kind][via][third] for via in kinds])
    return left == sum([table[via][second][third] * table[kind][first][via] for via in kinds])


RULES = {
    "zero": _keeps_zero,
    "valency": _keeps_valency,
    "exchange": _keeps_exchange,
    "weight": _keeps_weight,
    "sums": _keeps_sums,
    "bracket": _keeps_bracket,
}
_INDICES = {"zero": 2, "valency": 2, "exchange": 3, "weight": 3, "sums": 2, "bracket": 4}


def breaks(table, rule, places):
    """Whether the places are indices, as many as the rule has, at which the table breaks it."""
    if len(places) != _INDICES[rule] or not all([is_between(place, 0, len(table) - 1) for place in places]):
        return False
    keeps = RULES[rule]
    return not keeps(table, places)


def _all_places(size, many):
    """All tuples of so many indices, ascending."""
    tuples = [()]
    for _ in range(many):
        tuples = [(*told, index) for told in tuples for index in range(size)]
    return tuples


def _first_broken(table, rule):
    """The least indices at which a table breaks a rule, `None` if it keeps the rule."""
    keeps = RULES[rule]
    for places in _all_places(len(table), _INDICES[rule]):
        if not keeps(table, places):
            return places
    return None


def _paired(one, other):
    """The sum of the products of the numbers of one pair of kinds and the weighed numbers of another one."""
    return sum([number * weighed for number, weighed in zip(one[0], other[1])])


def _keeps_brackets(table):
    """Whether a table that keeps all other rules keeps the last one, too.

    By "exchange" and "weight" each sum of "bracket", multiplied by v(k), is one over all a of v(a),
    of the number of the kind a for two of the four kinds, and of that for the two others. So what is
    asked is that the three ways to part four kinds give the same; with the kind 0 they always do.
    """
    size = len(table)
    valencies = [table[0][kind][kind] for kind in range(size)]
    pairs = {}
    for one in range(1, size):
        for other in range(1, size):
            numbers = [table[via][one][other] for via in range(size)]
            pairs[one, other] = numbers, [number * valency for number, valency in zip(numbers, valencies)]
    for one in range(1, size):
        for two in range(one, size):
            for three in range(two, size):
                for four in range(three, size):
                    told = _paired(pairs[one, two], pairs[three, four])
                    if told != _paired(pairs[one, three], pairs[two, four]):
                        return False
                    if told != _paired(pairs[one, four], pairs[two, three]):
                        return False
    return True


def fault_of(table):
    """The first rule that a table breaks, with the least indices, `None` if it keeps all rules."""
    for rule in RULES:
        if rule != "bracket":
            places = _first_broken(table, rule)
            if places is not None:
                return (rule, *places)
    if _keeps_brackets(table):
        return None
    return ("bracket", *_first_broken(table, "bracket"))
