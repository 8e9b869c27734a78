"""Sums of inequalities: the greatest value of a sum, and what bars any greater one."""

from bestlooks.boards import board_of
from bestlooks.errors import BadRow
from bestlooks.ratios import lower, share, times
from bestlooks.vectors import are_rows, combined, dot, is_above, is_below, is_exact, is_exact_row, is_from_nought
from bestlooks.vectors import is_row, kept, pair, pairs, whole


class Reached:
    """The greatest value, spots that have it, and weights that bar a greater one."""

    def __init__(self, number, spots, weights):
        self.number = kept(number)
        self.spots = kept(spots)
        self.weights = kept(weights)


class Endless:
    """Spots, and a run along which the value rises without end."""

    def __init__(self, spots, run):
        self.spots = kept(spots)
        self.run = kept(run)


class Nothing:
    """Weights that bar any spots."""

    def __init__(self, weights):
        self.weights = kept(weights)


def _check(rows, right, worth):
    """The errors of rows, right and worth, in this order."""
    if not are_rows(rows):
        raise BadRow(rows)
    if not is_row(right, len(rows)):
        raise BadRow(right)
    if not is_row(worth, len(rows[0])):
        raise BadRow(worth)


def largest(rows, right, worth):
    """The greatest sum of worth over all spots that keep the rows within right: Reached, Endless or Nothing."""
    _check(rows, right, worth)
    many, across = len(rows), len(worth)
    lines = [whole(list(row) + [item]) for row, item in zip(rows, right)]
    goal, by = whole(worth)
    factors = [factor for _, factor in lines]
    grid = [line for line, _ in lines] + [[-item for item in goal] + [0]]
    board = board_of(grid, list(range(across, across + many)), list(range(across)))
    if not board.find_spots():
        weights = board.prices_of(many + 1, across, many)
        return Nothing([times(item, factor) for item, factor in zip(weights, factors)])
    column = board.climb(many)
    spots = pairs(board.values_of(across))
    if column is not None:
        return Endless(spots, pairs(board.course_of(column, across)))
    weights = [share(item, by) for item in board.prices_of(many, across, many)]
    number = share((board.grid[many][-1], board.scale), by)
    return Reached(number, spots, [times(item, factor) for item, factor in zip(weights, factors)])


def is_largest(rows, right, worth, told):
    """Whether told is what largest describes."""
    _check(rows, right, worth)
    if isinstance(told, Reached):
        return _is_reached(rows, right, worth, told)
    if isinstance(told, Endless):
        return _is_endless(rows, right, worth, told)
    return isinstance(told, Nothing) and _bars_all(rows, right, told.weights)


def _are_spots(rows, right, spots):
    """Whether any value is a row of spots."""
    if not is_exact_row(spots, len(rows[0])) or not is_from_nought(spots):
        return False
    return not any([lower(item, dot(row, spots)) for row, item in zip(rows, right)])


def _are_weights(rows, weights):
    """Whether any value is a row of weights."""
    return is_exact_row(weights, len(rows)) and is_from_nought(weights)


def _is_reached(rows, right, worth, told):
    """Whether a Reached has spots with its number, and weights that bar a greater one."""
    if not is_exact(told.number) or not _are_spots(rows, right, told.spots) or not _are_weights(rows, told.weights):
        return False
    if dot(worth, told.spots) != pair(told.number) or dot(right, told.weights) != pair(told.number):
        return False
    return not any([lower(made, item) for made, item in zip(combined(told.weights, rows), worth)])


def _is_endless(rows, right, worth, told):
    """Whether an Endless has spots, and a run along which the value rises without end."""
    if not _are_spots(rows, right, told.spots) or not is_exact_row(told.run, len(worth)):
        return False
    if not is_from_nought(told.run) or any([is_above(dot(row, told.run)) for row in rows]):
        return False
    return is_above(dot(worth, told.run))


def _bars_all(rows, right, weights):
    """Whether any value is a row of weights that bar any spots."""
    if not _are_weights(rows, weights) or not is_below(dot(right, weights)):
        return False
    return is_from_nought(combined(weights, rows))
