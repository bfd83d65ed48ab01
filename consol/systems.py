"""Systems of rows and right sides, and how they are solved.

Rows are multiplied to rows of integers and brought into echelon form without
any fractions in between: each division there is known to leave no rest, since
the items are determinants of parts of the rows. So they stay short.
"""

from math import lcm

from consol.errors import InvalidSystem, TooLarge
from consol.ratios import ZERO, fraction, opposite, products

ONE = (1, 1)
MOST = 60


def solve(rows, sides):
    """Returns ("none", factors), ("one", values) or ("several", values, kernel)."""
    columns = _width(rows)
    _check_lengths(rows, columns)
    if len(sides) != len(rows):
        raise InvalidSystem("not as many sides as rows")
    _check_size(rows, columns)
    return solution(rows, sides, columns)


def solution(rows, sides, columns):
    """Returns the answer of solve for a system of any size."""
    table, pivots, rest = _echelon(_beside(rows, sides), columns)
    if any(row[columns] != 0 for row in rest):
        return ("none", _factors(rows, sides, columns))
    values = _spread(_ending(table, pivots, columns), pivots, columns)
    nothing = _first_kernel(table, pivots, columns)
    if nothing is None:
        return ("one", values)
    return ("several", values, nothing)


def rank(rows):
    """Returns the number of pivots."""
    columns = _width(rows)
    _check_lengths(rows, columns)
    _check_size(rows, columns)
    return len(_echelon([_whole(row) for row in rows], columns)[1])


def kernel(rows, columns):
    """Returns the kernel list, or None if every column is a pivot."""
    _check_lengths(rows, columns)
    _check_size(rows, columns)
    return kernel_list(rows, columns)


def kernel_list(rows, columns):
    """Returns the answer of kernel for rows of any number and length."""
    table, pivots, _ = _echelon([_whole(row) for row in rows], columns)
    return _first_kernel(table, pivots, columns)


def solves(rows, sides, values):
    """Tells whether a list solves a system."""
    if len(values) != _width(rows):
        return False
    return all(products(row, values) == side for row, side in zip(rows, sides))


def contradicts(rows, sides, factors):
    """Tells whether factors show that a system has no solution."""
    if len(factors) != len(rows) or products(sides, factors) == ZERO:
        return False
    return all(products(column, factors) == ZERO for column in _turned(rows, _width(rows)))


def is_kernel(rows, values):
    """Tells whether a list is a kernel list of rows."""
    if all(value == ZERO for value in values):
        return False
    return solves(rows, [ZERO] * len(rows), values)


def _width(rows):
    return len(rows[0]) if rows else 0


def _check_lengths(rows, columns):
    if any(len(row) != columns for row in rows):
        raise InvalidSystem("rows of different lengths")


def _check_size(rows, columns):
    if len(rows) > MOST or columns > MOST:
        raise TooLarge("system")


def _turned(rows, columns):
    """Returns the columns as rows."""
    return [[row[column] for row in rows] for column in range(columns)]


def _beside(rows, sides):
    """Returns whole rows with the sides as one more column."""
    return [_whole([*row, side]) for row, side in zip(rows, sides)]


def _whole(row):
    """Returns the integers that a row becomes when no denominator is left."""
    common = 1
    for _, q in row:
        common = lcm(common, q)
    return [p * (common // q) for p, q in row]


def _echelon(table, columns):
    """Returns the rows with pivots in echelon form, the pivots, and the other rows.

    Pivots are looked for in the first columns only, as many as told.
    """
    found = []
    pivots = []
    rest = table
    divisor = 1
    for column in range(columns):
        at = _first_row(rest, column)
        if at is None:
            continue
        head = rest[at]
        others = rest[:at] + rest[at + 1:]
        rest = [_reduced(row, head, column, divisor) for row in others]
        divisor = head[column]
        found.append(head)
        pivots.append(column)
    return found, pivots, rest


def _first_row(rows, column):
    for at, row in enumerate(rows):
        if row[column] != 0:
            return at
    return None


def _reduced(row, head, column, divisor):
    """Returns a combination of a row and the head that is 0 up to the column."""
    own = row[column]
    factor = head[column]
    left = [(factor * a - own * b) // divisor for a, b in zip(row[column + 1:], head[column + 1:])]
    return [0] * (column + 1) + left


def _ending(table, pivots, column):
    """Returns the factors of the pivots that sum to a column of the table."""
    if not table:
        return []
    # The factors times the last item in the echelon are integers (Cramer's rule).
    whole = table[-1][pivots[-1]]
    numbers = [0] * len(pivots)
    for at in reversed(range(len(pivots))):
        row = table[at]
        known = sum(row[pivots[k]] * numbers[k] for k in range(at + 1, len(pivots)))
        numbers[at] = (whole * row[column] - known) // row[pivots[at]]
    return [fraction(number, whole) for number in numbers]


def _spread(values, pivots, columns):
    """Returns a list with the values at the pivots and 0 at all other columns."""
    spread = [ZERO] * columns
    for value, pivot in zip(values, pivots):
        spread[pivot] = value
    return spread


def _first_kernel(table, pivots, columns):
    for column in range(columns):
        if column not in pivots:
            factors = [opposite(value) for value in _ending(table, pivots, column)]
            values = _spread(factors, pivots, columns)
            values[column] = ONE
            return values
    return None


def _factors(rows, sides, columns):
    """Returns factors that contradict a system without a solution."""
    # They are asked to make 0 of every column and 1 of the sides, which they
    # can exactly because there is no solution.
    asked = _turned(rows, columns) + [sides]
    wanted = [ZERO] * columns + [ONE]
    table, pivots, _ = _echelon(_beside(asked, wanted), len(rows))
    return _spread(_ending(table, pivots, len(rows)), pivots, len(rows))
