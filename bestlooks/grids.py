"""Grids of integers, and their pivots.

The numbers of most grids stand for ratios over one scale: all of them are determinants of parts of the first grid, so
each division by the scale comes out even, and no number grows beyond such a determinant. In others each row stands
for itself, and is kept as short as it can be.
"""

from bestlooks.vectors import divisor


def pivoted(grid, at, column, scale):
    """The grid with multiples of the row at taken from all others, so that their column is 0.

    The new scale is the item of that row in the column.
    """
    lead = grid[at]
    return [row if k == at else cleared(row, lead, column, scale) for k, row in enumerate(grid)]


def cleared(row, lead, column, scale):
    """A row of a grid with a multiple of the leading one taken from it, so that its column is 0."""
    by, factor = lead[column], row[column]
    return [(item * by - factor * other) // scale for item, other in zip(row, lead)]


def reduced(grid, many):
    """The grid with pivots in as many of its first columns as there can be: (grid, pivots, scale).

    The pivots are told as pairs of a row and a column, by ascending columns; all their items are the scale.
    """
    scale = 1
    pivots = []
    free = list(range(len(grid)))
    for column in range(many):
        fitting = [k for k in free if grid[k][column] != 0]
        if fitting:
            at = fitting[0]
            grid = pivoted(grid, at, column, scale)
            scale = grid[at][column]
            pivots.append((at, column))
            free = [k for k in free if k != at]
    return grid, pivots, scale


def simplified(row):
    """A row of integers divided by their greatest common divisor."""
    by = divisor(row)
    return [item // by for item in row] if by > 1 else row


def swept(grid, at, column):
    """The grid, each row of which stands for itself, with 0 in the column of all rows but the one at."""
    return [row if k == at or row[column] == 0 else _without(row, grid[at], column) for k, row in enumerate(grid)]


def _without(row, lead, column):
    """A multiple of a row less a multiple of the leading one, so that its column is 0."""
    by, factor = simplified([lead[column], row[column]])
    return simplified([item * by - factor * other for item, other in zip(row, lead)])


def is_odd(order):
    """Whether a row of different integers comes into ascending order by an odd number of exchanges."""
    swaps = [1 for k, late in enumerate(order) for early in order[:k] if early > late]
    return len(swaps) % 2 == 1
