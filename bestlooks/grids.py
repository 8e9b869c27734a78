"""Grids of integers that stand for ratios over one scale, and their pivots.

All numbers of such a grid are determinants of parts of the first grid, so each division by the scale comes out even,
and no number grows beyond such a determinant.
"""


def pivoted(grid, at, column, scale):
    """The grid with multiples of the row at taken from all others, so that their column is 0.

    The new scale is the item of that row in the column.
    """
    lead = grid[at]
    by = lead[column]
    return [row if k == at else _cleared(row, lead, by, row[column], scale) for k, row in enumerate(grid)]


def _cleared(row, lead, by, factor, scale):
    """A row of the grid less the fitting multiple of the leading one."""
    return [(item * by - factor * other) // scale for item, other in zip(row, lead)]


def reduced(grid, many):
    """The grid with pivots in as many of its first columns as there can be: (grid, pivots, scale).

    The pivots are told as pairs of a row and a column, by ascending columns; all their items are the scale.
    """
    scale = 1
    pivots = []
    free = list(range(len(grid)))
    for column in range(many):
        fitting = [k for k in free if grid[k][column] != 0]
        if fitting:
            at = fitting[0]
            grid = pivoted(grid, at, column, scale)
            scale = grid[at][column]
            pivots.append((at, column))
            free = [k for k in free if k != at]
    return grid, pivots, scale


def is_odd(order):
    """Whether a row of different integers comes into ascending order by an odd number of exchanges."""
    swaps = [1 for k, late in enumerate(order) for early in order[:k] if early > late]
    return len(swaps) % 2 == 1
