"""Boards: sums of inequalities as the simplex method sees them, in integers over one scale."""

# The name of the place that is lent to all rows until there are spots.
LENT = -1

# So many steps in a row may gain nothing before the slow way is gone that is sure to end.
STALLS = 40

# So many bits stand for 1 on a rough board, and what has at most half as many is taken for 0.
FINE = 768
HALF = 384

# Where the numbers of a board may come to so many bits, a rough board is asked ahead of it.
LONG = 1000


class Board:
    """A grid of equations.

    For each row of the grid: the value named in down at this row, plus the sum of all items, each times the value
    named in across at its column, is the last item; all of it over the scale. Rows behind those of down are goals.
    """

    def __init__(self, grid, down, across):
        self.grid = grid
        self.down = down
        self.across = across
        self.scale = 1
        # How many steps a climb may still take; None for any number.
        self.left = None

    def exchange(self, at, column):
        """Solves the row at for the value of the column, and puts it into all other rows."""
        lead = self.grid[at]
        by = lead[column]
        # The scale stays above 0, so that signs can be read off the grid.
        sign = 1 if by > 0 else -1
        grid = [self._cleared(row, lead, column, sign) for row in self.grid]
        turned = [sign * item for item in lead]
        turned[column] = sign * self.scale
        grid[at] = turned
        self.grid = grid
        self.scale = sign * by
        self.down[at], self.across[column] = self.across[column], self.down[at]

    def _cleared(self, row, lead, column, sign):
        """A row with the leading one put into it."""
        by, factor = sign * lead[column], sign * row[column]
        cleared = [(item * by - factor * other) // self.scale for item, other in zip(row, lead)]
        cleared[column] = -factor
        return cleared

    def climb(self, goal):
        """Exchanges until the goal, a row's index, is greatest; the column of a way without end, or None."""
        stalls = 0
        while self.left != 0:
            column = self._entering(goal, stalls > STALLS)
            if column is None:
                return None
            at = self._leaving(column)
            if at is None:
                return column
            stalls = stalls + 1 if self.grid[at][-1] == 0 else 0
            self.exchange(at, column)
            if self.left is not None:
                self.left -= 1
        return None

    def _entering(self, goal, careful):
        """A column by which the goal rises; None if there is none."""
        row = self.grid[goal]
        fitting = [k for k in range(len(self.across)) if row[k] < 0]
        if not fitting:
            return None
        # Behind steps that gained nothing, only the least name is sure not to lead round in a ring.
        if careful:
            return min(fitting, key=lambda k: self.across[k])
        return min(fitting, key=lambda k: row[k])

    def _leaving(self, column):
        """The row that is the first to reach 0 as the value of the column rises; None if none does."""
        best = None
        for k, name in enumerate(self.down):
            row = self.grid[k]
            if row[column] > 0 and (best is None or self._is_sooner(k, name, best, column)):
                best = k
        return best

    def _is_sooner(self, at, name, best, column):
        """Whether the row at reaches 0 ahead of the best one, or with it under a lesser name."""
        mine = self.grid[at][-1] * self.grid[best][column]
        other = self.grid[best][-1] * self.grid[at][column]
        return mine < other or (mine == other and name < self.down[best])

    def without(self, column):
        """Takes a column away."""
        self.grid = [row[:column] + row[column + 1:] for row in self.grid]
        self.across = self.across[:column] + self.across[column + 1:]

    def find_spots(self):
        """Exchanges until all last items of down's rows are from 0 on; whether this can be done.

        If not, the last row, a goal that is added for this, tells weights that bar it.
        """
        many = len(self.down)
        if LENT not in self.down:
            worst = min(list(range(many)), key=lambda k: self.grid[k][-1])
            if self.grid[worst][-1] >= 0:
                return True
            self._lend([self.scale] * many)
            self.exchange(worst, len(self.across) - 1)
        self.climb(len(self.grid) - 1)
        if self.grid[-1][-1] < 0 or not self._give_back():
            return False
        self.without(self.across.index(LENT))
        self.grid.pop()
        return True

    def _lend(self, loans):
        """Adds a place by which all rows of down gain a loan, and the goal that it be as little as can be."""
        loans = [-loan for loan in loans] + [0] * (len(self.grid) - len(self.down))
        grid = [row[:-1] + [loan, row[-1]] for row, loan in zip(self.grid, loans)]
        self.grid = grid + [[0] * len(self.across) + [self.scale, 0]]
        self.across = self.across + [LENT]

    def _give_back(self):
        """Exchanges the lent place, which is 0, for any other one; whether it stands among those across then."""
        if LENT in self.across:
            return True
        at = self.down.index(LENT)
        fitting = [k for k, item in enumerate(self.grid[at][:-1]) if item != 0]
        # Only where numbers are rounded off may there be none.
        if fitting:
            self.exchange(at, fitting[0])
        return len(fitting) > 0

    def values_of(self, many):
        """The values of the names from 0 on, before many, as pairs of an integer and the scale."""
        values = [0] * many
        for k, name in enumerate(self.down):
            if 0 <= name < many:
                values[name] = self.grid[k][-1]
        return [(item, self.scale) for item in values]

    def prices_of(self, goal, first, many):
        """What the goal tells of the names from first on, so many, as pairs of an integer and the scale."""
        values = [0] * many
        for k, name in enumerate(self.across):
            if name >= first:
                values[name - first] = self.grid[goal][k]
        return [(item, self.scale) for item in values]

    def course_of(self, column, many):
        """How the names from 0 on, before many, move as the value of the column rises by 1."""
        values = [0] * many
        if 0 <= self.across[column] < many:
            values[self.across[column]] = self.scale
        for k, name in enumerate(self.down):
            if 0 <= name < many:
                values[name] = -self.grid[k][column]
        return [(item, self.scale) for item in values]

    def go_to(self, names):
        """Exchanges until down has just these names; whether this can be done, and all last items are from 0 on."""
        many = len(self.down)
        if LENT in names:
            self._lend([_most(row) for row in self.grid[:many]])
        for name in names:
            if name not in self.down:
                column = self.across.index(name)
                fitting = [k for k in range(many) if self.down[k] not in names and self.grid[k][column] != 0]
                if not fitting:
                    return False
                self.exchange(fitting[0], column)
        return all([self.grid[k][-1] >= 0 for k in range(many)])


def _most(row):
    """The greatest size of an integer of a row, at least 1."""
    return max(1, max([abs(item) for item in row]))


class Rough(Board):
    """A board whose numbers are rounded off, so that they stay short: what it tells is but a guess."""

    def __init__(self, grid, down, across):
        super().__init__([[(item << FINE) // _most(row) for item in row] for row in grid], down, across)
        self.scale = 1 << FINE
        # Rounded off, even the careful way may lead round in a ring.
        self.left = 20 * (len(down) + len(across))

    def exchange(self, at, column):
        """Solves the row at for the value of the column, and puts it into all other rows."""
        lead = self.grid[at]
        by = lead[column]
        grid = [_rounded(row, lead, (row[column] << FINE) // by, column) for row in self.grid]
        turned = [(item << FINE) // by for item in lead]
        turned[column] = (1 << 2 * FINE) // by
        grid[at] = turned
        self.grid = grid
        self.down[at], self.across[column] = self.across[column], self.down[at]


def _rounded(row, lead, factor, column):
    """A row with the leading one put into it, without what may be but left over from rounding off."""
    made = [item - (factor * other >> FINE) for item, other in zip(row, lead)]
    made[column] = -factor
    return [item if item.bit_length() > HALF else 0 for item in made]


def board_of(grid, down, across):
    """A board of these rows; where numbers are long, one that is near its end already, as a rough one tells."""
    board = Board(grid, list(down), list(across))
    bits = max([_most(row).bit_length() for row in grid])
    if bits * min(len(down), len(across)) < LONG:
        return board
    rough = Rough(grid, list(down), list(across))
    if rough.find_spots():
        rough.climb(len(down))
    if board.go_to(list(rough.down)):
        return board
    return Board(grid, list(down), list(across))
