"""Fields: the places of looks from which nearly best designs are made, in fine numbers.

A frame turns rows so that a told table becomes the unit table. What is asked of all numbers together is the same
in each frame, and in a fitting one no number is very great or very small.
"""

from bestlooks.climbs import climb
from bestlooks.fine import FINE, ONE, fine_dot, rooted
from bestlooks.looks import Design, Rows, places_enough, row_at
from bestlooks.polys import Poly
from bestlooks.ratios import minus, plus, share, times
from bestlooks.tables import Table, gathered, squares_of
from bestlooks.turns import summits
from bestlooks.vectors import combined

# Shares are rounded off to so many bits more than the gap has, and left out below so many units of the last one; the
# first of these ways that will do is taken, so that there are few places and short numbers where there can be.
WAYS = ((4, 8), (4, 1), (12, 1), (24, 1), (48, 1))


class Frame:
    """What turns rows so that a Table, which is above nought, becomes the unit table."""

    def __init__(self, table):
        squares = squares_of(table)
        self.back = Table(squares.rows).inverse()
        self.lengths = [share(1, weight) for weight in squares.weights]

    def line_of(self, row, square):
        """A row times the root of a ratio, turned."""
        turned = combined(row, self.back.rows)
        return [rooted(item, times(square, length)) for item, length in zip(turned, self.lengths)]

    def table_of(self, table):
        """A Table of numbers that are told by rows, turned likewise."""
        turned = (self.back.turned() * table * self.back).rows
        sizes = [[times(one, two) for two in self.lengths] for one in self.lengths]
        return [[rooted(item, size) for item, size in zip(row, line)] for row, line in zip(turned, sizes)]


class ListField:
    """All places of a list."""

    def __init__(self, looks, frame, amount):
        self.turned_rows = [frame.line_of(row, amount) for row in looks.rows]

    def first_counts(self):
        """The counts of the places to begin with: all of them."""
        return list(range(len(self.turned_rows)))

    def line_at(self, count):
        """The turned row of a place."""
        return self.turned_rows[count]

    def place_of(self, count):
        """The place that is counted so."""
        return (count, 1)

    def above(self, form, level):
        """The counts of places at which the height by a form is above a level: all are looked at already."""
        return []


class CurveField:
    """Evenly spaced places of a curve, counted from 0 to steps."""

    def __init__(self, curve, frame, amount, bits):
        self.top = max(1, max([poly.degree() for poly in curve.polys]))
        # By Markov's inequality a form within a bound at these places is so everywhere, but for a quarter of the gap.
        self.steps = 1 << ((bits + 1) // 2 + 2 * (2 * self.top).bit_length() + 1)
        self.low = curve.low
        self.length = minus(curve.high, curve.low)
        moved = [poly.moved(self.low, self.length).numbers for poly in curve.polys]
        padded = [row + ((0, 1),) * (self.top + 1 - len(row)) for row in moved]
        self.powers = [frame.line_of(column, amount) for column in zip(*padded)]

    def first_counts(self):
        """The counts of the places to begin with, enough to tell all that the curve can tell."""
        parts = 2 * self.top
        return [self.steps * k // parts for k in range(parts + 1)]

    def line_at(self, count):
        """The turned row of a place."""
        place = (count << FINE) // self.steps
        line = self.powers[-1]
        for power in reversed(self.powers[:-1]):
            line = [(item * place >> FINE) + number for item, number in zip(line, power)]
        return line

    def place_of(self, count):
        """The place that is counted so."""
        return plus(self.low, times(self.length, (count, self.steps)))

    def above(self, form, level):
        """The counts of places at which the height by a form is above a level, and no less than beside them."""
        last = 2 * self.top
        numbers = [0 for _ in range(last + 1)]
        for i, power in enumerate(self.powers):
            line = [fine_dot(power, row) for row in form]
            for k, other in enumerate(self.powers):
                numbers[i + k] += fine_dot(line, other)
        # In steps, and times such a power of them that all numbers are integers.
        poly = Poly([number * _power(self.steps, last - k) for k, number in enumerate(numbers)])
        bound = level * _power(self.steps, last)
        return [count for count in summits(poly, self.steps) if poly.at(count)[0] > bound]


def _power(steps, many):
    """A power of two to the power of many."""
    return 1 << (steps.bit_length() - 1) * many


def field_of(looks, frame, amount, bits):
    """The field of looks, the rows times the root of an amount, for a gap of so many bits."""
    if isinstance(looks, Rows):
        return ListField(looks, frame, amount)
    return CurveField(looks, frame, amount, bits)


def even_table(looks):
    """The Table of as many looks at each of enough places."""
    rows = [row_at(looks, place) for place in places_enough(looks)]
    return gathered(rows, [(1, len(rows)) for _ in rows])


def _near(field, aim, bits):
    """Counts of places, and shares of them, that no others better by a gap of so many bits, as the aim counts."""
    gap = ONE >> bits
    counts = field.first_counts()
    while True:
        shares = climb(aim, [field.line_at(count) for count in counts], gap >> 2)
        more = [count for count in field.above(aim.form, aim.level(gap >> 1)) if count not in counts]
        if not more:
            return counts, shares
        counts = sorted(counts + more)


def _rounded(field, counts, shares, bits, least):
    """The Design with the shares rounded off to so many bits, none below a least one; None if nothing is left."""
    half = ONE >> (bits + 1)
    parts = [(part + half) >> (FINE - bits) for part in shares]
    used = [k for k, part in enumerate(parts) if part >= least]
    if not used:
        return None
    whole = sum([parts[k] for k in used])
    return Design([field.place_of(counts[k]) for k in used], [(parts[k], whole) for k in used])


def settled(field, aim, bits, judged):
    """The first thing that is made of nearly best designs; judged makes it of a Design, or None."""
    more = 0
    while True:
        counts, shares = _near(field, aim, bits + more)
        for finer, least in WAYS:
            design = _rounded(field, counts, shares, bits + finer, least)
            found = None if design is None else judged(design)
            if found is not None:
                return found
        more += 2
