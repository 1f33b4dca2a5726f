"""Tables of exact numbers, tuples of rows."""

from thirdcounts.base.numbers import added, as_pair, fraction, is_between, is_number, multiplied, need_number
from thirdcounts.base.wholes import eliminated, fractions_of, primitive, whole_row
from thirdcounts.errors import InvalidNumber, InvalidOperation, InvalidTable, Refused

MAX_SIDE = 40


def is_row(value):
    """Whether the value is a tuple of 1 to 40 numbers."""
    if not isinstance(value, tuple) or not 1 <= len(value) <= MAX_SIDE:
        return False
    return all([is_number(entry) for entry in value])


def is_table(value):
    """Whether the value is a tuple of 1 to 40 rows of equally many numbers."""
    if not isinstance(value, tuple) or not 1 <= len(value) <= MAX_SIDE:
        return False
    if not all([is_row(row) for row in value]):
        return False
    return all([len(row) == len(value[0]) for row in value])


def _need_table(value):
    if not is_table(value):
        raise InvalidTable("this is no table of 1 to 40 rows of equally many numbers")


def _need_row(value):
    if not is_row(value):
        raise InvalidTable("this is no row of 1 to 40 numbers")


def _need_square(table):
    if len(table) != len(table[0]):
        raise InvalidOperation("the table has not as many columns as rows")


def _fractions(table):
    return tuple([tuple([as_pair(entry) for entry in row]) for row in table])


def is_idle(value):
    """Whether the value is an idle table of some size."""
    return is_table(value) and _fractions(value) == _idle(len(value))


def _idle(size):
    return tuple([tuple([(1 if row == column else 0, 1) for column in range(size)]) for row in range(size)])


def idle_table(size):
    """The idle table of a size."""
    if not is_between(size, 1, MAX_SIDE):
        raise InvalidNumber(size)
    return _idle(size)


def table_turned(table):
    """The table that has the columns of a table as its rows."""
    _need_table(table)
    rows = _fractions(table)
    return tuple([tuple(column) for column in zip(*rows)])


def table_sum(one, other):
    """The sum of two tables, entry by entry."""
    _need_table(one)
    _need_table(other)
    if len(one) != len(other) or len(one[0]) != len(other[0]):
        raise InvalidOperation("the tables have not equally many rows and columns")
    return tuple([tuple([added(low, high) for low, high in zip(row, further)]) for row, further in zip(one, other)])


def table_scaled(table, number):
    """The table with each entry multiplied by a number."""
    _need_table(table)
    need_number(number)
    return tuple([tuple([multiplied(entry, number) for entry in row]) for row in table])


def _entry_of_product(row, column):
    """The sum of the products of the entries of a row and a column, both over their common bottoms."""
    tops, bottom = row
    overs, under = column
    return fraction(sum([top * over for top, over in zip(tops, overs)]), bottom * under)


def _product(one, other):
    rows = [whole_row(row) for row in one]
    columns = [whole_row(column) for column in zip(*other)]
    return tuple([tuple([_entry_of_product(row, column) for column in columns]) for row in rows])


def table_product(one, other):
    """The product of two tables."""
    _need_table(one)
    _need_table(other)
    if len(one[0]) != len(other):
        raise InvalidOperation("the first table has not as many columns as the second one has rows")
    return _product(one, other)


def row_times(row, table):
    """The row times the table, a row."""
    _need_row(row)
    _need_table(table)
    if len(row) != len(table):
        raise InvalidOperation("the row has not as many entries as the table has rows")
    return _product((row,), table)[0]


def table_trace(table):
    """The sum of the entries of a square table whose row and column have one index."""
    _need_table(table)
    _need_square(table)
    trace = (0, 1)
    for index, row in enumerate(table):
        trace = added(trace, row[index])
    return trace


def determinant(table):
    """The determinant of a square table."""
    _need_table(table)
    _need_square(table)
    scaled = [whole_row(row) for row in table]
    _, columns, lead, sign = eliminated([row for row, _ in scaled])
    if len(columns) < len(table):
        return 0, 1
    bottoms = 1
    for _, bottom in scaled:
        bottoms = bottoms * bottom
    return fraction(sign * lead, bottoms)


def table_undone(table):
    """The table whose product with a square table, in both sequences, is idle."""
    _need_table(table)
    _need_square(table)
    size = len(table)
    rows = []
    for index, row in enumerate(table):
        tops, bottom = whole_row(row)
        rows.append(tops + [0] * index + [bottom] + [0] * (size - index - 1))
    solved, columns, lead, _ = eliminated(rows)
    if columns != list(range(size)):
        raise Refused(("determinant",))
    return tuple([fractions_of(row[size:], lead) for row in solved])


def _whole_rows(rows):
    """Rows of integers, multiples of the rows of numbers."""
    return [primitive(whole_row(row)[0]) for row in rows]


def table_rank(table):
    """The number of the rows of the echelon."""
    _need_table(table)
    return len(eliminated(_whole_rows(table))[0])


def table_echelon(table):
    """The echelon of a table, a tuple of rows."""
    _need_table(table)
    found = eliminated(_whole_rows(table))
    return tuple([fractions_of(row, found[2]) for row in found[0]])


def table_kernel(table):
    """The echelon of all rows with which each row of the table has the product 0.

    The columns are taken in the opposite sequence: then each row of the kernel that is read off the
    echelon begins with the 1 in its own column, once it is turned back, and they are an echelon.
    """
    _need_table(table)
    width = len(table[0])
    rows, columns, lead, _ = eliminated(_whole_rows([row[::-1] for row in table]))
    kernel = []
    for free in reversed(range(width)):
        if free not in columns:
            entries = [0] * width
            entries[free] = lead
            for row, column in zip(rows, columns):
                entries[column] = -row[free]
            kernel.append(fractions_of(entries[::-1], lead))
    return tuple(kernel)


def table_solved(table, row):
    """The row with 0 at the columns without a lead that solves the equations, `None` if no row does."""
    _need_table(table)
    _need_row(row)
    if len(row) != len(table):
        raise InvalidOperation("the row has not as many entries as the table has rows")
    width = len(table[0])
    rows, columns, lead, _ = eliminated(_whole_rows([(*left, right) for left, right in zip(table, row)]))
    if width in columns:
        return None
    entries = [0] * width
    for solved, column in zip(rows, columns):
        entries[column] = solved[width]
    return fractions_of(entries, lead)
