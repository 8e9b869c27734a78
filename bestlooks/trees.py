"""Trees: papers over all counts of whole looks.

A tree tells for each place, in order, what bars each number of looks at it; a leaf bars all counts that begin as the
branches to it tell. What a leaf is, and what bars, is told by the kind of paper: paper.leaf makes a leaf, or None
where it must branch, and paper.is_leaf judges one.
"""

from bestlooks.climbs import climb
from bestlooks.fields import even_table, field_of
from bestlooks.fine import FINE, ONE
from bestlooks.grids import reduced
from bestlooks.looks import Rows
from bestlooks.ratios import is_whole, lowest, times, together
from bestlooks.tables import gathered
from bestlooks.vectors import pairs

# Where so many counts or fewer are left, it is quicker to look at all of them than to find a leaf that bars them.
FEW = 12

# How near, in bits, designs come to the best ones where they help to find leaves.
BITS = 8


class Counted:
    """A list with integers in place of its ratios: each column is times the bottom that all of it has in common."""

    def __init__(self, looks):
        columns = [together(column) for column in zip(*looks.rows)]
        self.bottoms = [bottom for _, bottom in columns]
        lines = [tops for tops, _ in columns]
        self.products = [[[one * two for two in row] for one in row] for row in zip(*lines)]

    def table_of(self, counts):
        """The table of counts, of integers."""
        used = [(count, item) for count, item in zip(counts, self.products) if count > 0]
        many = len(self.bottoms)
        return [[sum([count * item[i][k] for count, item in used]) for k in range(many)] for i in range(many)]

    def det_of(self, counts):
        """The determinant of the table of counts, a pair."""
        grid, pivots, scale = reduced(self.table_of(counts), len(self.bottoms))
        if len(pivots) < len(grid):
            return (0, 1)
        bottom = 1
        for item in self.bottoms:
            bottom = bottom * item * item
        # The table is made of squares, so that its determinant is not below 0, whichever way the rows were taken.
        return lowest(abs(scale), bottom)

    def spread_of(self, counts, row):
        """The spread of a row under the table of counts, in any terms; None if there is none."""
        asked, bottom = together([times(item, by) for item, by in zip(row, self.bottoms)])
        lines = [line + [item] for line, item in zip(self.table_of(counts), asked)]
        grid, pivots, scale = reduced(lines, len(asked))
        used = [at for at, _ in pivots]
        if any([line[-1] != 0 for k, line in enumerate(grid) if k not in used]):
            return None
        top = sum([asked[column] * grid[at][-1] for at, column in pivots])
        # To find the lowest terms is slow, and most spreads are only compared.
        return (top, scale * bottom * bottom) if scale > 0 else (-top, -scale * bottom * bottom)


def all_counts(places, many):
    """All tuples of integers from 0 on, one for each place, that add up to many."""
    found = [()]
    for _ in range(places - 1):
        found = [counts + (count,) for counts in found for count in range(many - sum(counts) + 1)]
    return [counts + (many - sum(counts),) for counts in found]


def tree_of(paper, looks, many):
    """The tree for many looks at the places of a list."""
    products = [gathered([row], [1]) for row in looks.rows]
    return _branch(paper, products, 0, many, products[0] * 0)


def _branch(paper, products, at, left, table):
    """The tree for the places from at on, and so many looks left, the table being that of the looks that are told."""
    leaf = paper.leaf(at, left, table)
    if leaf is not None:
        return (0, leaf)
    tables = [table + products[at] * count for count in range(left + 1)]
    return (1, tuple([_branch(paper, products, at + 1, left - k, other) for k, other in enumerate(tables)]))


def is_tree(paper, looks, many, value):
    """Whether any value is a tree for many looks at the places of a list."""
    products = [gathered([row], [1]) for row in looks.rows]
    return _is_branch(paper, products, value, 0, many, products[0] * 0)


def _is_branch(paper, products, value, at, left, table):
    """Whether any value is a tree for the places from at on."""
    if not isinstance(value, tuple) or len(value) != 2 or not is_whole(value[0]):
        return False
    kind, inner = value
    if kind == 0:
        return paper.is_leaf(inner, at, left, table)
    if kind != 1 or at >= len(products) - 1 or not isinstance(inner, tuple) or len(inner) != left + 1:
        return False
    for count, tree in enumerate(inner):
        if not _is_branch(paper, products, tree, at + 1, left - count, table + products[at] * count):
            return False
    return True


def is_few(places, left):
    """Whether so many looks at so many places make but few counts."""
    many = 1
    for k in range(1, places):
        many = many * (left + k) // k
    return many <= FEW


def rest_table(rows, left, table):
    """The table of as many looks as are left, shared out evenly among rows, and of those that are told."""
    return table + even_table(Rows(rows)) * left


def near_table(rows, left, table, aim, frame):
    """A table of the looks that are left, shared out among rows nearly best for an aim, and of those that are told."""
    field = field_of(Rows(rows), frame, (left, 1), BITS)
    shares = climb(aim, [field.line_at(count) for count in field.first_counts()], ONE >> BITS)
    half = ONE >> (2 * BITS + 1)
    parts = [(part + half) >> (FINE - 2 * BITS) for part in shares]
    whole = sum(parts)
    return table + gathered(rows, [(part * left, whole) for part in parts])


def fine_asked(row, frame):
    """The fine table of the products of each two items of a row, turned, for its spread to be 1 in the frame."""
    line = frame.line_of(pairs(row), (1, 1))
    size = sum([item * item for item in line])
    return [[(one * two << FINE) // size for two in line] for one in line]
