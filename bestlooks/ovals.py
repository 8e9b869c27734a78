"""Ovals in the plane: their sizes, and the least ones that hold points."""

from bestlooks.errors import BadRow
from bestlooks.looks import Rows, are_parts, rank_of, width
from bestlooks.ratios import is_whole, lower, minus, share, times
from bestlooks.tables import Table, form_of, gathered
from bestlooks.vectors import are_rows, ascends, combined, gap_of, greatest, is_above, is_exact, is_row, joined, kept
from bestlooks.vectors import negative, pairs
from bestlooks.wholes import whole_of


class Oval:
    """The points for which the form of what they are less the middle is at most 1."""

    def __init__(self, middle, form):
        if not is_row(middle, 2):
            raise BadRow(middle)
        if not _is_form(form):
            raise BadRow(form)
        self.middle = pairs(middle)
        self.form = pairs(form)

    def __eq__(self, other):
        return isinstance(other, Oval) and self.middle == other.middle and self.form == other.form


class Least:
    """An Oval that holds points, and shares of some of them that show that no other one is much smaller."""

    def __init__(self, oval, shares):
        self.oval = kept(oval)
        self.shares = kept(shares)


def _is_form(value):
    """Whether any value is a row (p, q, r) with p and p * r - q * q above 0."""
    return is_row(value, 3) and is_above(value[0]) and is_above(_table_of_form(value).det())


def _table_of_form(form):
    """The Table that a form (p, q, r) is."""
    return Table([[form[0], form[1]], [form[1], form[2]]])


def size_of(oval):
    """The square of an Oval's area, divided by that of pi."""
    return share(1, _table_of_form(oval.form).det())


def holds(oval, point):
    """Whether a point is in an Oval."""
    if not is_row(point, 2):
        raise BadRow(point)
    return not lower(1, form_of(_table_of_form(oval.form), joined(point, negative(oval.middle))))


def moved_oval(oval, matrix, shift):
    """The Oval of the points (a * x + b * y + e, c * x + d * y + f)."""
    if not is_row(matrix, 4):
        raise BadRow(matrix)
    if not is_row(shift, 2):
        raise BadRow(shift)
    turning = Table([matrix[:2], matrix[2:]])
    back = turning.inverse()
    form = back.turned() * _table_of_form(oval.form) * back
    middle = joined(combined(oval.middle, turning.turned().rows), shift)
    return Oval(middle, (form.rows[0][0], form.rows[0][1], form.rows[1][1]))


def _check_points(points, bits, middle):
    """The errors of points, their middle and bits, in their order."""
    if not are_rows(points) or len(points[0]) != 2:
        raise BadRow(points)
    if middle is not None and not is_row(middle, 2):
        raise BadRow(middle)
    looks = _looks_at(points, middle)
    if rank_of(looks) < width(looks):
        raise BadRow(points)
    gap_of(bits)


def _looks_at(points, middle):
    """The list whose design with the greatest determinant has the shares of the least oval."""
    if middle is None:
        return Rows([(1,) + tuple(point) for point in points])
    return Rows(_less(points, middle))


def _less(points, middle):
    """The points less a middle."""
    return [joined(point, negative(middle)) for point in points]


def _mean(points, shares, middle):
    """The mean of points by their shares, pairs of an index and a share; the middle instead if it is not None."""
    if middle is not None:
        return pairs(middle)
    return combined([part for _, part in shares], [points[index] for index, _ in shares])


def _scatter(points, shares, about):
    """The table of the points' scatter about a point."""
    rows = _less([points[index] for index, _ in shares], about)
    return gathered(rows, [part for _, part in shares])


def least_oval(points, bits, middle=None):
    """Least(oval, shares) of the points, with this middle if it is not None."""
    _check_points(points, bits, middle)
    # The oval is too great by at most three quarters of the gap for each unit of its size then.
    design = whole_of(_looks_at(points, middle), bits + 2).design
    shares = [(index, part) for (index, _), part in zip(design.places, design.shares)]
    about = _mean(points, shares, middle)
    form = _scatter(points, shares, about).inverse()
    reach = greatest([form_of(form, row) for row in _less(points, about)])
    rows = (form * share(1, reach)).rows
    return Least(Oval(about, (rows[0][0], rows[0][1], rows[1][1])), shares)


def is_least_oval(points, bits, told, middle=None):
    """Whether told is what least_oval describes."""
    _check_points(points, bits, middle)
    if not isinstance(told, Least) or not isinstance(told.oval, Oval):
        return False
    if not _are_shares(told.shares, len(points)) or not all([holds(told.oval, point) for point in points]):
        return False
    if middle is not None and told.oval.middle != pairs(middle):
        return False
    scatter = _scatter(points, told.shares, _mean(points, told.shares, middle))
    least = times(minus(1, gap_of(bits)), size_of(told.oval))
    return not lower(times(4, scatter.det()), least)


def _are_shares(value, many):
    """Whether any value is a tuple of pairs of an index below many and a share, ascending, that add up to 1."""
    if not isinstance(value, tuple) or not all([isinstance(item, tuple) and len(item) == 2 for item in value]):
        return False
    indices = [index for index, _ in value]
    if not all([is_whole(index) and 0 <= index < many for index in indices]) or not ascends(indices):
        return False
    shares = [part for _, part in value]
    return all([is_exact(part) for part in shares]) and are_parts(shares, len(shares))
