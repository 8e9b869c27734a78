"""Climbs: shares of rows on their way to the best ones for an aim, in fine numbers.

What an aim wants to be greatest is taken together with the logarithms of all shares, times a weight. So all shares
stay above 0; and where both together are greatest, the form of the aim, a table, shows that no shares are much better:
the height of a row r, that is r * form * r, is for no row much above what it is for the rows that are used. The
weight is halved again and again; the steps between are those of Newton.
"""

from math import isqrt

from bestlooks.fine import FINE, ONE, fine_answers, fine_diagonal, fine_dot, fine_forms, fine_inverse, fine_product
from bestlooks.fine import fine_sum, fine_table, together_in

# The weight of the logarithms is halved so many times at once.
HALVINGS = 3


class Aim:
    """What is wanted of shares. Each aim measures them, and tells the equations of the next step."""

    def start(self):
        """Begins a climb: mostly nothing is left of an earlier one."""

    def go_on(self, part):
        """Goes a part of a step: mostly there is nothing to change but the shares."""


class WholeAim(Aim):
    """The greatest determinant of what was taken and the table of the shares, together."""

    def __init__(self, taken):
        self.taken = taken
        self.form = []
        self.heights = []
        self.pulls = []

    def measure(self, rows, shares):
        """Takes the form and the heights from the shares of rows."""
        self.form = fine_inverse(fine_sum(self.taken, fine_table(rows, shares)))
        self.pulls = fine_forms(rows, self.form)
        self.heights = fine_diagonal(self.pulls)

    def level(self, gap):
        """The height that none is above if no determinant is greater by more than a gap for each number."""
        return len(self.form) * (ONE + gap) - together_in(self.form, self.taken)

    def equations(self, shares, halvings):
        """The equations of the next step."""
        bends = [[item * item for item in row] for row in self.pulls]
        return _equations(bends, self.heights, shares, halvings)


class SumAim(Aim):
    """The least sum of all numbers of the asked table times those of the inverse of what was taken and the shares'."""

    def __init__(self, taken, asked):
        self.taken = taken
        self.asked = asked
        self.total = 0
        self.form = []
        self.heights = []
        self.pulls = []
        self.pushes = []

    def measure(self, rows, shares):
        """Takes the sum, the form and the heights from the shares of rows."""
        back = fine_inverse(fine_sum(self.taken, fine_table(rows, shares)))
        self.total = together_in(back, self.asked)
        self.form = fine_forms(back, self.asked)
        self.pulls = fine_forms(rows, back)
        self.pushes = fine_forms(rows, self.form)
        self.heights = fine_diagonal(self.pushes)

    def level(self, gap):
        """The height that none is above if no sum is less by more than a gap for each unit of it."""
        return self.total + (self.total * gap >> FINE) - together_in(self.form, self.taken)

    def equations(self, shares, halvings):
        """The equations of the next step."""
        bends = [[2 * one * two for one, two in zip(row, line)] for row, line in zip(self.pulls, self.pushes)]
        return _equations(bends, self.heights, shares, halvings)


class WorstAim(Aim):
    """The greatest number such that the shares' table less it times the unit table is from nought; for rows within 1.

    The number itself climbs along with the shares.
    """

    def __init__(self):
        self.least = 0
        self.back = []
        self.form = []
        self.heights = []
        self.pulls = []
        self.sides = []

    def start(self):
        """Begins with a number that is surely less."""
        self.least = -ONE

    def measure(self, rows, shares):
        """Takes the form and the heights from the shares of rows, and the number."""
        table = fine_table(rows, shares)
        self.back = fine_inverse([_with_more(row, k, -self.least) for k, row in enumerate(table)])
        by = sum(fine_diagonal(self.back))
        self.form = [[(item << FINE) // by for item in row] for row in self.back]
        lines = fine_product(rows, self.back)
        self.pulls = fine_product(lines, rows)
        self.sides = [fine_dot(line, line) for line in lines]
        self.heights = [(item << FINE) // by for item in fine_diagonal(self.pulls)]

    def level(self, gap):
        """The height that none is above if no number is greater by more than a gap."""
        return max(self.least, 0) + gap

    def equations(self, shares, halvings):
        """The equations of the next step, the last one of which is that of the number."""
        bends = [[item * item for item in row] for row in self.pulls]
        grid = _equations(bends, fine_diagonal(self.pulls), shares, 0)
        side = [-(part * item) >> FINE for part, item in zip(shares, self.sides)]
        grid = [row[:-2] + [item] + row[-2:] for row, item in zip(grid, side)]
        bend = together_in(self.back, self.back)
        return grid + [side + [bend, (ONE << halvings) - sum(fine_diagonal(self.back)), 0]]

    def go_on(self, part):
        """Changes the number by a part of what the last equation made of it."""
        self.least += part


def _with_more(row, at, more):
    """A row with more at one place."""
    return [item + more if k == at else item for k, item in enumerate(row)]


def _equations(bends, slopes, shares, halvings):
    """The equations of a step that is told by how much of each share it adds, as rows.

    Behind the numbers for all shares stand those for how steep the way is, and for the sum of all shares, which stays.
    """
    by = 3 * FINE - halvings
    grid = [[item * one * two >> by for item, two in zip(row, shares)] for row, one in zip(bends, shares)]
    grid = [_with_more(row, k, ONE) for k, row in enumerate(grid)]
    rises = [(one * slope >> (FINE - halvings)) + ONE for one, slope in zip(shares, slopes)]
    return [row + [rise, one] for row, rise, one in zip(grid, rises, shares)]


def climb(aim, rows, gap):
    """Shares of the rows with which no height is above the level of this gap, the aim having measured them."""
    shares = [ONE // len(rows) for _ in rows]
    halvings = 0
    aim.start()
    aim.measure(rows, shares)
    while max(aim.heights) > aim.level(gap):
        grid = aim.equations(shares, halvings)
        step = _step(grid, shares)
        # As long as the step is, measured by the bends, so much of it can surely be gone.
        length = isqrt(max(0, fine_dot(step, [row[-2] for row in grid])) << FINE)
        part = ONE if 4 * length <= ONE else (ONE << FINE) // (ONE + length)
        shares = [one + (one * item * part >> 2 * FINE) for one, item in zip(shares, step)]
        aim.go_on(step[-1] * part >> FINE)
        aim.measure(rows, shares)
        if 2 * length <= ONE:
            halvings += HALVINGS
    return shares


def _step(grid, shares):
    """What the equations make of a step that leaves the sum of all shares as it is."""
    found = fine_answers(grid)
    ahead = fine_dot(shares, [row[0] for row in found])
    back = fine_dot(shares, [row[1] for row in found])
    by = (ahead << FINE) // back
    return [row[0] - (by * row[1] >> FINE) for row in found]
