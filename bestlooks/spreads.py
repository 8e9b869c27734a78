"""Sums of spreads, and the worst direction."""

from bestlooks.climbs import SumAim, WorstAim
from bestlooks.errors import BadRow
from bestlooks.fields import Frame, even_table, field_of, settled
from bestlooks.fine import FINE, ONE, fine_diagonal, fine_table
from bestlooks.grids import reduced
from bestlooks.looks import Curve, Design, Hidden, Rows, can_tell, has_places, is_hidden, places_enough, row_at
from bestlooks.looks import table_of, unseen_row, width
from bestlooks.ratios import is_whole, lower, plus, share, times
from bestlooks.signs import Capped, capped, is_capped
from bestlooks.tables import Squares, Table, gathered, led_to, spread_under, squares_of
from bestlooks.vectors import are_rows, dot, gap_of, is_above, is_all_nought, is_below, is_exact
from bestlooks.vectors import is_exact_row, is_row, is_size, kept, pair, pairs, scaled, whole


class Untold:
    """The first number that looks cannot tell, and what hides it."""

    def __init__(self, index, hidden):
        self.index = kept(index)
        self.hidden = kept(hidden)


class LeastSum:
    """A Design with its sum of spreads, and rows that show that no other one's sum is much less."""

    def __init__(self, design, total, rows, bound, paper):
        self.design = kept(design)
        self.total = kept(total)
        self.rows = kept(rows)
        self.bound = kept(bound)
        self.paper = kept(paper)


class Worst:
    """A Design with a number that its least value is not below, and a Table that bars much greater ones."""

    def __init__(self, design, least, table, bound, paper):
        self.design = kept(design)
        self.least = kept(least)
        self.table = kept(table)
        self.bound = kept(bound)
        self.paper = kept(paper)


def _check_sum(looks, numbers, weights, bits):
    """The errors of sums, in their order."""
    if not are_rows(numbers) or len(numbers[0]) != width(looks):
        raise BadRow(numbers)
    if not is_row(weights, len(numbers)) or not all([is_size(weight) for weight in weights]):
        raise BadRow(weights)
    gap_of(bits)


def _first_untold(looks, numbers):
    """The Untold of the first number that the looks cannot tell; None if they tell all."""
    for index, number in enumerate(numbers):
        found = can_tell(looks, number)
        if isinstance(found, Hidden):
            return Untold(index, found)
    return None


def least_sum(looks, numbers, weights, bits):
    """LeastSum(design, total, rows, bound, paper) of the numbers, or Untold(index, hidden)."""
    _check_sum(looks, numbers, weights, bits)
    untold = _first_untold(looks, numbers)
    if untold is not None:
        return untold
    if all([is_all_nought(number) for number in numbers]):
        table = Table([[0] * width(looks)] * width(looks))
        design = Design([places_enough(looks)[0]], (1,))
        return LeastSum(design, (0, 1), [pairs(number) for number in numbers], (1, 1), capped(looks, table, 1))
    columns = _columns(looks)
    asked = [[number[column] for column in columns] for number in numbers]
    found = _least_sum_of(_part_of(looks, columns), asked, weights, bits)
    return LeastSum(found.design, found.total, _spread_out(found.rows, columns, width(looks)), found.bound, found.paper)


def _least_sum_of(looks, numbers, weights, bits):
    """The LeastSum of looks that tell all numbers, none of the columns of their rows hanging on others."""
    first = even_table(looks)
    frame = Frame(first)
    size = dot(weights, [spread_under(first, number) for number in numbers])
    lines = [frame.line_of(pairs(number), share(weight, size)) for number, weight in zip(numbers, weights)]
    none = [[0 for _ in row] for row in first.rows]
    aim = SumAim(none, fine_table(lines, [ONE for _ in lines]))
    field = field_of(looks, frame, 1, bits)
    return settled(field, aim, bits, lambda design: _sum_of(looks, design, numbers, weights, bits))


def _columns(looks):
    """The least columns of the rows of looks that tell all others."""
    grid = [whole(row_at(looks, place))[0] for place in places_enough(looks)]
    return [column for _, column in reduced(grid, width(looks))[1]]


def _part_of(looks, columns):
    """The looks with these columns of their rows alone."""
    if isinstance(looks, Rows):
        return Rows([[row[column] for column in columns] for row in looks.rows])
    return Curve(looks.low, looks.high, [looks.polys[column] for column in columns])


def _spread_out(rows, columns, many):
    """The rows with their items at these columns, and 0 at all others."""
    places = [columns.index(k) if k in columns else None for k in range(many)]
    return [tuple([(0, 1) if place is None else row[place] for place in places]) for row in rows]


def _sum_of(looks, design, numbers, weights, bits):
    """The LeastSum of a Design, if the rows that its own best weights make will do; None otherwise."""
    table = table_of(looks, design)
    rows = [led_to(table, number) for number in numbers]
    if None in rows:
        return None
    spreads = [dot(row, number) for row, number in zip(rows, numbers)]
    sum_told = dot(weights, spreads)
    bound = times(plus(1, gap_of(bits)), sum_told)
    paper = capped(looks, gathered(rows, weights), bound)
    return LeastSum(design, sum_told, rows, bound, paper) if isinstance(paper, Capped) else None


def is_least_sum(looks, numbers, weights, bits, told):
    """Whether told is what least_sum describes."""
    _check_sum(looks, numbers, weights, bits)
    if isinstance(told, Untold):
        return _is_untold(looks, numbers, told)
    if not isinstance(told, LeastSum) or not isinstance(told.design, Design) or not has_places(looks, told.design):
        return False
    table = table_of(looks, told.design)
    spreads = [spread_under(table, number) for number in numbers]
    if None in spreads or not is_exact(told.total) or pair(told.total) != dot(weights, spreads):
        return False
    if not isinstance(told.rows, tuple) or len(told.rows) != len(numbers) or not is_exact(told.bound):
        return False
    if not all([is_exact_row(row, width(looks)) for row in told.rows]) or not is_above(told.bound):
        return False
    if not is_capped(looks, gathered(told.rows, weights), told.bound, told.paper):
        return False
    reached = dot(weights, [dot(row, number) for row, number in zip(told.rows, numbers)])
    most = times(plus(1, gap_of(bits)), times(reached, reached))
    return not lower(most, times(told.total, told.bound))


def _is_untold(looks, numbers, told):
    """Whether an Untold has the first number that the looks cannot tell, and hides it."""
    if not is_whole(told.index) or told.index < 0 or told.index >= len(numbers):
        return False
    if not isinstance(told.hidden, Hidden) or not is_hidden(looks, numbers[told.index], told.hidden.z):
        return False
    return _first_untold(looks, numbers[:told.index]) is None


def worst_direction(looks, bits):
    """Worst(design, least, table, bound, paper) of the looks."""
    gap = gap_of(bits)
    z = unseen_row(looks)
    if z is not None:
        table = Table([scaled(z, share(item, dot(z, z))) for item in z])
        return Worst(Design([places_enough(looks)[0]], (1,)), (0, 1), table, (0, 1), capped(looks, table, 0))
    rows = [row_at(looks, place) for place in places_enough(looks)]
    # Rows are scaled down by so many bits, for a square, that they are within 1, or nearly.
    more = max([(1 + dot(row, row)[0] // dot(row, row)[1]).bit_length() for row in rows])
    frame = Frame(_unit_times(width(looks), 1 << more))
    aim = WorstAim()
    field = field_of(looks, frame, 1, bits + more)
    return settled(field, aim, bits + more, lambda design: _worst_of(looks, design, aim, more, gap))


def _unit_times(many, number):
    """The Table with a number on its diagonal, and 0 elsewhere."""
    return Table([[number if i == k else 0 for i in range(many)] for k in range(many)])


def _worst_of(looks, design, aim, more, gap):
    """The Worst of a Design, with the Table that a climb for it tells; None if it will not do."""
    table = _short_table(aim.form, gap)
    least = _least_of(table_of(looks, design), aim.least << more, times(gap, (1, 16)))
    if least is None or not isinstance(squares_of(table), Squares):
        return None
    bound = plus(least, gap)
    paper = capped(looks, table, bound)
    return Worst(design, least, table, bound, paper) if isinstance(paper, Capped) else None


def _short_table(form, gap):
    """A form rounded off, the sum of its diagonal being 1."""
    # The least of what is from nought in it is about as small as the gap.
    bits = FINE - 64 - 3 * gap[1].bit_length()
    # Rounded off, a form may not be quite the same when it is turned.
    rows = [[form[min(i, k)][max(i, k)] >> bits for i in range(len(form))] for k in range(len(form))]
    by = sum(fine_diagonal(rows))
    return Table([[share(item, by) for item in row] for row in rows])


def _least_of(table, guess, step):
    """The greatest of some multiples of the step, about a guess, that a Table less it times the unit is not below."""
    number = max(0, guess * step[1] >> FINE)
    for least in (number, number - 1, number - 2, number - 4):
        found = times(max(0, least), step)
        if isinstance(squares_of(table - _unit_times(table.width, found)), Squares):
            return found
    return None


def is_worst_direction(looks, bits, told):
    """Whether told is what worst_direction describes."""
    gap = gap_of(bits)
    if not isinstance(told, Worst) or not isinstance(told.design, Design) or not has_places(looks, told.design):
        return False
    if not is_exact(told.least) or is_below(told.least) or not is_exact(told.bound):
        return False
    if lower(plus(told.least, gap), told.bound) or not _is_weighing(told.table, width(looks)):
        return False
    rest = table_of(looks, told.design) - _unit_times(width(looks), pair(told.least))
    return isinstance(squares_of(rest), Squares) and is_capped(looks, told.table, told.bound, told.paper)


def _is_weighing(table, many):
    """Whether any value is a Table of so many rows, from nought, whose diagonal adds up to 1."""
    if not isinstance(table, Table) or table.height != many or table.width != many or table.turned() != table:
        return False
    if dot([1] * many, [row[k] for k, row in enumerate(table.rows)]) != (1, 1):
        return False
    return isinstance(squares_of(table), Squares)
