"""Designs compared: by their tables, by how many places they have, and as the numbers are told anew."""

from bestlooks.errors import BadRow, Unlike
from bestlooks.grids import simplified, swept
from bestlooks.looks import Design, are_parts, check_places, rows_of
from bestlooks.ratios import floor_of, lower, minus, plus, share, times
from bestlooks.tables import Squares, form_of, is_squares, led_to, spread_under, squares_of
from bestlooks.vectors import by_size, combined, divisor, gap_of, is_below, is_exact, is_exact_row, is_nought, kept
from bestlooks.vectors import negative, pair, pairs, whole


class NoWorse:
    """Squares that show that one Table is no worse than another one for any number."""

    def __init__(self, squares):
        self.squares = kept(squares)


class Worse:
    """A row, and its spreads under one Table and under the other one, which is less."""

    def __init__(self, number, mine, theirs):
        self.number = kept(number)
        self.mine = kept(mine)
        self.theirs = kept(theirs)


class NoRatio:
    """A row that has a spread under the other Table alone."""

    def __init__(self, number):
        self.number = kept(number)


class RatioTold:
    """How often one Table's spreads are the other one's at most, Squares for it, and a row that bars less."""

    def __init__(self, upper, squares, number):
        self.upper = kept(upper)
        self.squares = kept(squares)
        self.number = kept(number)


def _check_sizes(one, other):
    """Unlike("sizes") for Tables of unlike heights or widths."""
    if one.height != other.height or one.width != other.width:
        raise Unlike("sizes")


def no_worse(one, other):
    """NoWorse(squares) if one is no worse than other for any number, or Worse(number, mine, theirs)."""
    _check_sizes(one, other)
    found = squares_of(one - other)
    if isinstance(found, Squares):
        return NoWorse(found)
    number = combined(found.row, other.rows)
    return Worse(number, spread_under(one, number), spread_under(other, number))


def is_order(one, other, told):
    """Whether told is what no_worse describes."""
    _check_sizes(one, other)
    if isinstance(told, NoWorse):
        return isinstance(told.squares, Squares) and is_squares(one - other, told.squares)
    if not isinstance(told, Worse) or not is_exact_row(told.number, one.height):
        return False
    mine, theirs = spread_under(one, told.number), spread_under(other, told.number)
    if theirs is None or not is_exact(told.theirs) or pair(told.theirs) != theirs:
        return False
    if mine is None:
        return told.mine is None
    return is_exact(told.mine) and pair(told.mine) == mine and lower(theirs, mine)


def greatest_ratio(one, other, bits):
    """How many times the spreads under other those under one are at most: NoRatio or RatioTold."""
    _check_sizes(one, other)
    gap = gap_of(bits)
    for row in other.rows:
        if led_to(one, row) is None:
            return NoRatio(row)
    least, most = -1, None
    bar, squares = None, None
    tries = 0
    while most is None or most - least > 1:
        many = _next_try(least, most, tries)
        found = squares_of(one * times(many, gap) - other)
        if isinstance(found, Squares):
            squares, most = found, many
        else:
            bar, least = found.row, _too_few(one, gap, many, found)
        tries += 1
    return RatioTold(times(most, gap), squares, None if bar is None else combined(bar, other.rows))


def _next_try(least, most, tries):
    """The multiple to try next, above one that is too few, and below one that is enough, if one is known."""
    # What is too few comes close to all that is soon, so each second time just one more is tried.
    if tries % 2 == 0:
        return least + 1
    return 2 * least + 2 if most is None else (least + most) // 2


def _too_few(one, gap, many, found):
    """The greatest multiple of the gap that the row of a BelowNought at so many shows to be too few."""
    more = share(found.number, times(form_of(one, found.row), gap))
    return many - 1 - floor_of(more)


def is_ratio_told(one, other, bits, told):
    """Whether told is what greatest_ratio describes."""
    _check_sizes(one, other)
    gap = gap_of(bits)
    if isinstance(told, NoRatio):
        if not is_exact_row(told.number, one.height):
            return False
        return spread_under(other, told.number) is not None and spread_under(one, told.number) is None
    if not isinstance(told, RatioTold) or not is_exact(told.upper) or is_below(told.upper):
        return False
    if share(told.upper, gap)[1] != 1 or not isinstance(told.squares, Squares):
        return False
    if not is_squares(one * pair(told.upper) - other, told.squares):
        return False
    if is_nought(told.upper):
        return told.number is None
    if not is_exact_row(told.number, one.height):
        return False
    mine, theirs = spread_under(one, told.number), spread_under(other, told.number)
    if mine is None or theirs is None:
        return False
    return lower(times(minus(told.upper, gap), theirs), mine)


def few_places(looks, design):
    """A Design of places of the design alone, with the same Table, of no more places than are needed."""
    check_places(looks, design)
    columns = [whole(_products(row)) for row in _shortened(rows_of(looks, design))]
    wholes = [column for column, _ in columns]
    factors = [factor for _, factor in columns]
    weights = [share(part, factor) for part, factor in zip(design.shares, factors)]
    left = _thinned([list(line) for line in zip(*wholes)], weights)
    used = [k for k, weight in enumerate(left) if not is_nought(weight)]
    return Design([design.places[k] for k in used], [times(left[k], factors[k]) for k in used])


def _shortened(rows):
    """The rows with each number times what divides the bottoms of all rows there, which makes them shorter."""
    factors = [divisor([bottom for _, bottom in column]) for column in zip(*rows)]
    return [[times(item, factor) for item, factor in zip(row, factors)] for row in rows]


def _products(row):
    """The products of each two items of a row, and 1."""
    return [times(one, other) for k, one in enumerate(row) for other in row[k:]] + [(1, 1)]


def _thinned(grid, weights):
    """Other weights with which the columns of a grid have the same sum, only such as do not hang on one another."""
    left = list(weights)
    grid = [simplified(row) for row in grid]
    leads = {}
    for column in range(len(left)):
        fitting = [k for k, row in enumerate(grid) if k not in leads and row[column] != 0]
        if fitting:
            at = fitting[0]
        else:
            factors = {k: share(grid[k][column], grid[k][lead]) for k, lead in leads.items()}
            at = _shift(left, leads, factors, column)
            grid = _blanked(grid, column if at is None else leads[at])
        if at is not None:
            leads[at] = column
            grid = swept(grid, at, column)
    return left


def _blanked(grid, column):
    """The grid with 0 in a column that means nothing any more."""
    return [row[:column] + [0] + row[column + 1:] for row in grid]


def _shift(left, leads, factors, column):
    """Shares out a column's weight among the leads until none of it is left, or one of the leads has none.

    Tells the row of such a lead.
    """
    step, emptied = left[column], None
    for at, lead in leads.items():
        if is_below(factors[at]):
            most = share(left[lead], times(-1, factors[at]))
            if lower(most, step):
                step, emptied = most, at
    for at, lead in leads.items():
        left[lead] = plus(left[lead], times(step, factors[at]))
    left[column] = minus(left[column], step)
    return emptied


def _made(shares):
    """The Design with the shares of a dict by places."""
    places = by_size(list(shares))
    return Design(places, [shares[place] for place in places])


def mixed_design(designs, parts):
    """The Design with the parts of all shares of the designs, at one place all together."""
    if not are_parts(parts, len(designs)):
        raise BadRow(parts)
    shares = {}
    for design, part in zip(designs, parts):
        for place, item in zip(design.places, design.shares):
            shares[place] = plus(shares.get(place, 0), times(item, part))
    return _made(shares)


def _back(turning, many):
    """The inverse of a Table that leads so many numbers to others."""
    if turning.height != many or turning.width != many:
        raise Unlike("sizes")
    return turning.inverse()


def turned_rows(rows, turning):
    """The rows of the same looks, told by the new numbers."""
    back = _back(turning, len(rows[0]))
    return tuple([combined(row, back.rows) for row in rows])


def turned_number(number, turning):
    """The row that asks the same thing of the new numbers."""
    return combined(number, _back(turning, len(number)).rows)


def turned_table(table, turning):
    """The Table that a design has when it is told by the new numbers."""
    back = _back(turning, table.height)
    return back.turned() * table * back


def mirror(rows, turning):
    """For each row the index of the first other one that it is turned to, or to its negative; None without one."""
    lines = [pairs(row) for row in rows]
    found = []
    for line in lines:
        image = combined(line, turning.rows)
        images = (image, negative(image))
        fitting = [k for k, other in enumerate(lines) if k not in found and other in images]
        if not fitting:
            return None
        found.append(fitting[0])
    return tuple(found)


def evened(design, indices):
    """The Design on a list with half of each share at its index, and half of it where indices tell."""
    shares = {}
    for (index, _), item in zip(design.places, design.shares):
        half = times(item, (1, 2))
        for at in (index, indices[index]):
            shares[(at, 1)] = plus(shares.get((at, 1), 0), half)
    return _made(shares)
