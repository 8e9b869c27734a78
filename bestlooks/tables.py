"""Tables of ratios: sums and products, sums of multiples of rows, sums of squares."""

from bestlooks.errors import BadNumber, BadRow, Unlike
from bestlooks.grids import cleared, is_odd, reduced
from bestlooks.ratios import lowest, minus, plus, share, times, together
from bestlooks.vectors import are_rows, combined, divisor, dot, is_above, is_all_nought, is_below, is_exact
from bestlooks.vectors import is_exact_row, is_row, kept, pair, pairs, scaled, whole


class Table:
    """One or more rows of as many ratios each."""

    def __init__(self, rows):
        if not are_rows(rows):
            raise BadRow(rows)
        self.rows = tuple([pairs(row) for row in rows])
        self.height = len(self.rows)
        self.width = len(self.rows[0])

    def __eq__(self, other):
        return isinstance(other, Table) and self.rows == other.rows

    def __add__(self, other):
        if not isinstance(other, Table):
            return NotImplemented
        if self.height != other.height or self.width != other.width:
            raise Unlike("sizes")
        return Table([[plus(a, b) for a, b in zip(row, line)] for row, line in zip(self.rows, other.rows)])

    def __sub__(self, other):
        if not isinstance(other, Table):
            return NotImplemented
        if self.height != other.height or self.width != other.width:
            raise Unlike("sizes")
        return Table([[minus(a, b) for a, b in zip(row, line)] for row, line in zip(self.rows, other.rows)])

    def __mul__(self, other):
        if isinstance(other, Table):
            if self.width != other.height:
                raise Unlike("sizes")
            return Table([combined(row, other.rows) for row in self.rows])
        if not is_exact(other):
            return NotImplemented
        return Table([scaled(row, other) for row in self.rows])

    def __rmul__(self, other):
        if not is_exact(other):
            return NotImplemented
        return Table([scaled(row, other) for row in self.rows])

    def turned(self):
        """The Table with rows and columns exchanged."""
        return Table(list(zip(*self.rows)))

    def rank(self):
        """The greatest number of rows none of which is a sum of multiples of others."""
        grid = [whole(row)[0] for row in self.rows]
        return len(reduced(grid, self.width)[1])

    def det(self):
        """The determinant."""
        _check_square(self)
        wholes = [whole(row) for row in self.rows]
        _, pivots, scale = reduced([row for row, _ in wholes], self.width)
        if len(pivots) < self.width:
            return (0, 1)
        result = (-scale, 1) if is_odd([at for at, _ in pivots]) else (scale, 1)
        for _, factor in wholes:
            result = share(result, factor)
        return result

    def inverse(self):
        """The Table by which this one multiplied is the one with 1 on its diagonal and 0 elsewhere."""
        _check_square(self)
        grid, pivots, scale = reduced(_with_units(self.rows), self.width)
        if len(pivots) < self.width:
            raise BadNumber("determinant", 0)
        return Table([[share(item, scale) for item in grid[at][self.width:]] for at, _ in pivots])


class Answer:
    """A row by which a Table makes what is asked."""

    def __init__(self, row):
        self.row = kept(row)


class NoAnswer:
    """A row that shows that no row makes what is asked."""

    def __init__(self, row):
        self.row = kept(row)


class Squares:
    """Weights and rows that make a Table, which is so from nought."""

    def __init__(self, weights, rows):
        self.weights = kept(weights)
        self.rows = kept(rows)


class BelowNought:
    """A row by which a Table has a number below 0."""

    def __init__(self, row, number):
        self.row = kept(row)
        self.number = kept(number)


def _check_square(table):
    """Unlike("sizes") unless a Table has as many rows as columns."""
    if table.height != table.width:
        raise Unlike("sizes")


def _check_even(table):
    """The errors of a Table that must be the same when it is turned."""
    _check_square(table)
    if table.turned() != table:
        raise Unlike("even")


def _with_units(rows):
    """The integer rows of a grid, each with the row of the unit table behind it, all times the same."""
    many = len(rows)
    lines = [list(row) + [1 if i == k else 0 for k in range(many)] for i, row in enumerate(rows)]
    return [whole(line)[0] for line in lines]


def solved(one, right):
    """Answer(row) by which each row of one makes its item of right, or NoAnswer(row), which bars it."""
    if not is_row(right, one.height):
        raise BadRow(right)
    asked = [list(row) + [item] for row, item in zip(one.rows, right)]
    grid, pivots, scale = reduced(_with_units(asked), one.width)
    used = [at for at, _ in pivots]
    for k, row in enumerate(grid):
        if k not in used and row[one.width] != 0:
            return NoAnswer([share(item, row[one.width]) for item in row[one.width + 1:]])
    found = [(0, 1) for _ in range(one.width)]
    for at, column in pivots:
        found[column] = share(grid[at][one.width], scale)
    return Answer(found)


def led_to(table, row):
    """A row v of pairs such that the sum of the Table's rows, each times its item of v, is a row; None without one.

    The Table must be the same when it is turned.
    """
    grid, bottom, scales = _wholes(table)
    asked, low = together([times(item, by) for item, by in zip(row, scales)])
    grid, pivots, scale = reduced([line + [item] for line, item in zip(grid, asked)], table.width)
    used = [at for at, _ in pivots]
    if any([line[-1] != 0 for k, line in enumerate(grid) if k not in used]):
        return None
    sign = 1 if scale > 0 else -1
    found = [(0, 1) for _ in range(table.width)]
    for at, column in pivots:
        found[column] = lowest(sign * grid[at][-1] * bottom * scales[column], sign * scale * low)
    return found


def spread_under(table, row):
    """The spread ([17]) of a row of ratios under a Table from nought; None if there is none."""
    found = led_to(table, row)
    return None if found is None else dot(found, row)


def gathered(rows, weights):
    """The Table of the sum of the products of each two items of a row, times its weight, over all rows."""
    lines = [scaled(row, weight) for row, weight in zip(rows, weights)]
    return Table([combined(column, rows) for column in zip(*lines)])


def form_of(table, row):
    """The sum of all products of two items of a row and the Table's item at their places."""
    return dot(combined(row, table.rows), row)


def squares_of(one):
    """Squares(weights, rows) that make a Table, or BelowNought(row, number), which bars them."""
    _check_even(one)
    grid, bottom, scales = _wholes(one)
    scale = 1
    left = dict(enumerate(grid))
    weights, leads = [], []
    while True:
        fitting = [k for k, row in left.items() if row[k] > 0]
        if not fitting:
            break
        at = fitting[0]
        lead = left.pop(at)
        weights.append(lowest(lead[at], scale * bottom * scales[at] * scales[at]))
        leads.append((at, [share(item * scales[at], lead[at] * by) for item, by in zip(lead, scales)]))
        left = {k: cleared(row, lead, at, scale) for k, row in left.items()}
        scale = lead[at]
    bad = _below(left, one.height)
    if bad is None:
        return Squares(weights, [tuple(row) for _, row in leads])
    row = _freed([item * by for item, by in zip(bad, scales)], leads)
    return BelowNought(row, form_of(one, row))


def _wholes(table):
    """The Table with rows and columns times scales: integers that stand for it over one bottom; these; the scales."""
    # Times what divides their bottoms, rows and columns have shorter numbers.
    scales = [max(1, divisor([bottom for top, bottom in row if top != 0])) for row in table.rows]
    items = [times(item, one * two) for row, one in zip(table.rows, scales) for item, two in zip(row, scales)]
    tops, bottom = together(items)
    many = table.width
    return [tops[k * many:(k + 1) * many] for k in range(table.height)], bottom, scales


def _below(left, many):
    """A row that makes a number below 0 of what is left of a grid, without items above 0 on its diagonal."""
    for k, row in left.items():
        if row[k] < 0:
            return [1 if i == k else 0 for i in range(many)]
    for k, row in left.items():
        for other in left:
            if row[other] != 0:
                sign = -1 if row[other] > 0 else 1
                return [1 if i == k else sign if i == other else 0 for i in range(many)]
    return None


def _freed(row, leads):
    """The row with the items at the leads' places such that all leads, each times the row, are 0."""
    freed = list(row)
    for at, lead in reversed(leads):
        freed[at] = 0
        freed[at] = times(-1, dot(lead, freed))
    return pairs(freed)


def is_squares(one, told):
    """Whether told is what squares_of describes."""
    _check_even(one)
    if isinstance(told, BelowNought):
        if not is_exact_row(told.row, one.height) or not is_exact(told.number):
            return False
        return form_of(one, told.row) == pair(told.number) and is_below(told.number)
    return isinstance(told, Squares) and _makes(told, one)


def _makes(squares, table):
    """Whether the weights and rows of a Squares are such, and make a Table."""
    weights, rows = squares.weights, squares.rows
    if not isinstance(rows, tuple) or not all([is_exact_row(row, table.height) for row in rows]):
        return False
    if not is_exact_row(weights, len(rows)) or not all([is_above(weight) for weight in weights]):
        return False
    if not rows:
        return all([is_all_nought(row) for row in table.rows])
    lines = [scaled(row, weight) for row, weight in zip(rows, weights)]
    return Table(list(zip(*lines))) * Table(rows) == table
