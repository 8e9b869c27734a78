"""Numbers that are rounded off: integers that stand for them, times 2 to the power of FINE.

A fine table is a list of its rows; what is told of tables holds for fine ones but for what is rounded off.
"""

from math import isqrt

from bestlooks.ratios import times

FINE = 256
ONE = 1 << 256


def rooted(value, square):
    """A pair times the root of another pair, which is not below 0."""
    top, bottom = times(times(value, value), square)
    root = isqrt((top << 2 * FINE) // bottom)
    return -root if value[0] < 0 else root


def fine_dot(row, other):
    """The sum of the products of the numbers at the same place of two rows."""
    return sum([one * two for one, two in zip(row, other)]) >> FINE


def fine_product(rows, columns):
    """The table of the products of each row with each column."""
    return [[fine_dot(row, column) for column in columns] for row in rows]


def fine_forms(rows, table):
    """The table of the products of each two rows, a table being put between them."""
    return fine_product(fine_product(rows, table), rows)


def fine_table(rows, shares):
    """The sum of the products of each two numbers of a row, times its share, over all rows."""
    columns = list(zip(*rows))
    weighted = [[item * part >> FINE for item, part in zip(column, shares)] for column in columns]
    return fine_product(weighted, columns)


def fine_sum(one, other):
    """The sum of two tables."""
    return [[a + b for a, b in zip(row, line)] for row, line in zip(one, other)]


def together_in(one, other):
    """The sum of the products of the numbers at the same place of two tables."""
    return sum([fine_dot(row, line) for row, line in zip(one, other)])


def fine_diagonal(table):
    """The numbers on the diagonal of a table."""
    return [row[k] for k, row in enumerate(table)]


def fine_inverse(table):
    """The inverse of a table that is the same when it is turned, and above nought."""
    many = len(table)
    return fine_answers([row + [ONE if i == k else 0 for i in range(many)] for k, row in enumerate(table)])


def fine_answers(grid):
    """What equations make of each unknown number, for each of the columns that stand behind those of the unknown ones.

    The unknown ones' columns are a table that is the same when it is turned, and above nought.
    """
    many = len(grid)
    for at in range(many):
        by = grid[at][0]
        lead = [(item << FINE) // by for item in grid[at][1:]]
        grid = [lead if k == at else _cleared(row, lead) for k, row in enumerate(grid)]
    return grid


def _cleared(row, lead):
    """A row without its first number, which was taken away by so many times the leading row."""
    factor = row[0]
    return [item - (factor * other >> FINE) for item, other in zip(row[1:], lead)]
