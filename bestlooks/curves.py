"""One number, told by a curve."""

from bestlooks.lists import best_for
from bestlooks.looks import Design, Hidden, Rows, can_tell, check_number, has_places, is_hidden, line_on, spread_of
from bestlooks.looks import width
from bestlooks.polys import Poly
from bestlooks.ratios import lower, minus, plus, share, times
from bestlooks.signs import Split, is_split, nowhere_below
from bestlooks.turns import summits
from bestlooks.vectors import absolute, dot, gap_of, is_exact_row, kept, scaled, whole


class Near:
    """A Design, and a row z with two Splits, which show that no Design has a spread that is much less."""

    def __init__(self, design, z, splits):
        self.design = kept(design)
        self.z = kept(z)
        self.splits = kept(splits)


class Grid:
    """A curve at evenly spaced places alone, counted from 0 to steps, in integers.

    Each Poly is told by the count of the place, times one of the factors.
    """

    def __init__(self, curve, bits):
        self.top = max(1, max([poly.degree() for poly in curve.polys]))
        # By Markov's inequality a Poly within 1 and -1 at these places is so everywhere, but for a quarter of the gap.
        self.steps = 1 << (bits // 2 + 2 * self.top.bit_length() + 1)
        self.low = curve.low
        self.step = share(minus(curve.high, curve.low), self.steps)
        wholes = [whole(poly.moved(self.low, self.step).numbers) for poly in curve.polys]
        self.polys = [Poly(row) for row, _ in wholes]
        self.factors = [factor for _, factor in wholes]

    def place_of(self, many):
        """The place that is counted so."""
        return plus(self.low, times(self.step, many))

    def row_of(self, many):
        """The row of the place that is counted so."""
        return [poly.at(many) for poly in self.polys]

    def first_places(self):
        """Evenly spaced places, enough to tell all that the curve can tell."""
        parts = 2 * self.top
        return [self.steps * k // parts for k in range(parts + 1)]


def best_on(curve, c, bits):
    """Near(design, z, splits) for the number c on a curve, or Hidden(z), which bars it."""
    check_number(curve, c)
    gap = gap_of(bits)
    hidden = can_tell(curve, c)
    if isinstance(hidden, Hidden):
        return hidden
    grid = Grid(curve, bits)
    asked = [times(item, factor) for item, factor in zip(c, grid.factors)]
    # The square of 1 less half the gap is above 1 less the gap.
    part = minus(1, times(gap, (1, 2)))
    places = grid.first_places()
    while True:
        best = best_for(Rows([grid.row_of(place) for place in places]), asked)
        z = scaled([times(item, factor) for item, factor in zip(best.z, grid.factors)], part)
        splits = _splits(curve, z)
        if splits is not None:
            used = [grid.place_of(places[index]) for index, _ in best.design.places]
            return Near(Design(used, best.design.shares), z, splits)
        places = sorted(places + _peaks(grid, best.z))


def _splits(curve, z):
    """The Splits of 1 - z . p and 1 + z . p; None if there are none."""
    line = line_on(curve, z)
    splits = []
    for poly in (1 - line, 1 + line):
        found = nowhere_below(poly, curve.low, curve.high)
        if not isinstance(found, Split):
            return None
        splits.append(found)
    return tuple(splits)


def _peaks(grid, z):
    """The places of the grid at which z . p is beyond 1 or -1, and no less so than beside them."""
    line = Poly(())
    for poly, number in zip(grid.polys, z):
        line = line + poly * number
    return [place for place in summits(line, grid.steps) if lower(1, absolute(line.at(place)))]


def is_best_on(curve, c, bits, told):
    """Whether told is what best_on describes."""
    check_number(curve, c)
    gap = gap_of(bits)
    if isinstance(told, Hidden):
        return is_hidden(curve, c, told.z)
    if not isinstance(told, Near) or not isinstance(told.design, Design) or not has_places(curve, told.design):
        return False
    if not is_exact_row(told.z, width(curve)) or not isinstance(told.splits, tuple) or len(told.splits) != 2:
        return False
    line = line_on(curve, told.z)
    for poly, split in zip((1 - line, 1 + line), told.splits):
        if not is_split(poly, curve.low, curve.high, split):
            return False
    spread = spread_of(curve, told.design, c)
    if spread is None:
        return False
    number = dot(told.z, c)
    return not lower(times(number, number), times(minus(1, gap), spread))
