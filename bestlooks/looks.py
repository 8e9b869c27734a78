"""Looks, designs, and what they tell."""

from bestlooks.errors import BadInterval, BadNumber, BadRow, Unlike
from bestlooks.polys import Poly
from bestlooks.ratios import is_ratio, lower, minus, plus, times
from bestlooks.tables import NoAnswer, Table, form_of, gathered, led_to, solved, spread_under
from bestlooks.vectors import are_rows, ascends, combined, dot, is_all_nought, is_exact, is_exact_row, is_nought
from bestlooks.vectors import is_row, is_size, kept, pair, pairs, total


class Rows:
    """A list of looks: one or more rows of as many ratios each."""

    def __init__(self, rows):
        if not are_rows(rows):
            raise BadRow(rows)
        self.rows = tuple([pairs(row) for row in rows])


class Curve:
    """A curve of looks: the values of Polys at all places from low to high."""

    def __init__(self, low, high, polys):
        check_stretch(low, high)
        if not isinstance(polys, (tuple, list)) or not polys or not all([isinstance(poly, Poly) for poly in polys]):
            raise BadRow(polys)
        self.low = pair(low)
        self.high = pair(high)
        self.polys = tuple(polys)


class Design:
    """Ascending places, and the share of the looks at each."""

    def __init__(self, places, shares):
        if not _are_places(places):
            raise BadRow(places)
        if not are_parts(shares, len(places)):
            raise BadRow(shares)
        self.places = pairs(places)
        self.shares = pairs(shares)

    def __eq__(self, other):
        return isinstance(other, Design) and self.places == other.places and self.shares == other.shares


class Sum:
    """Places and numbers with which their rows make a row."""

    def __init__(self, places, numbers):
        self.places = kept(places)
        self.numbers = kept(numbers)


class Hidden:
    """A row that no look sees, but the number that is asked."""

    def __init__(self, z):
        self.z = kept(z)


def check_stretch(low, high):
    """BadInterval(low, high) unless both are ratios, low below high."""
    if not is_ratio(low) or not is_ratio(high) or not lower(low, high):
        raise BadInterval(low, high)


def _are_places(value):
    """Whether any value is a row of ascending ratios, one at least."""
    return isinstance(value, (tuple, list)) and len(value) > 0 and is_row(value, len(value)) and ascends(value)


def are_parts(value, many):
    """Whether any value is a row of so many ratios above 0 that add up to 1."""
    return is_row(value, many) and all([is_size(item) for item in value]) and total(value) == (1, 1)


def width(looks):
    """How many numbers a row of the looks has."""
    return len(looks.rows[0]) if isinstance(looks, Rows) else len(looks.polys)


def is_place(looks, place):
    """Whether any value is a place of the looks."""
    if not is_ratio(place):
        return False
    if isinstance(looks, Rows):
        top, bottom = pair(place)
        return bottom == 1 and 0 <= top < len(looks.rows)
    return not lower(place, looks.low) and not lower(looks.high, place)


def row_at(looks, place):
    """The row of a place of the looks."""
    if not is_place(looks, place):
        raise BadNumber("place", place)
    if isinstance(looks, Rows):
        return looks.rows[pair(place)[0]]
    return tuple([poly.at(place) for poly in looks.polys])


def check_places(looks, design):
    """Unlike("place") if a place of the design is none of the looks."""
    if not has_places(looks, design):
        raise Unlike("place")


def has_places(looks, design):
    """Whether all places of the design are places of the looks."""
    return all([is_place(looks, place) for place in design.places])


def check_number(looks, c):
    """BadRow(c) unless c is a row of as many ratios as the looks have."""
    if not is_row(c, width(looks)):
        raise BadRow(c)


def check_table(looks, table):
    """The errors of a Table that is passed with looks."""
    if table.height != width(looks) or table.width != width(looks):
        raise Unlike("sizes")
    if table.turned() != table:
        raise Unlike("even")


def rows_of(looks, design):
    """The rows of the places of a design, in order."""
    return [row_at(looks, place) for place in design.places]


def table_of(looks, design):
    """The Table of a design: the sum of each share times the products of its place's row."""
    check_places(looks, design)
    return gathered(rows_of(looks, design), design.shares)


def form_at(looks, table, place):
    """r A r for the row r of a place and a Table A."""
    check_table(looks, table)
    return form_of(table, row_at(looks, place))


def form_on(curve, table):
    """The Poly that has the value r A r at each place."""
    check_table(curve, table)
    result = Poly(())
    for poly, row in zip(curve.polys, table.rows):
        result = result + poly * line_on(curve, row)
    return result


def line_on(curve, z):
    """The Poly z . p, the sum of the curve's Polys, each times its number of z."""
    result = Poly(())
    for poly, number in zip(curve.polys, z):
        result = result + poly * pair(number)
    return result


def best_weights(looks, design, c):
    """The best weights of a design for the number c; None if it does not tell c."""
    table = table_of(looks, design)
    check_number(looks, c)
    found = led_to(table, c)
    if found is None:
        return None
    rows = rows_of(looks, design)
    return tuple([times(part, dot(row, found)) for part, row in zip(design.shares, rows)])


def spread_of(looks, design, c):
    """The spread of the number c under a design; None if it does not tell c."""
    table = table_of(looks, design)
    check_number(looks, c)
    return spread_under(table, c)


def places_enough(looks):
    """Places whose rows make the rows of all places of the looks."""
    if isinstance(looks, Rows):
        return [(k, 1) for k in range(len(looks.rows))]
    # A sum of the Polys that is 0 at more places than its degree is 0 everywhere.
    steps = max(0, max([poly.degree() for poly in looks.polys]))
    if steps == 0:
        return [looks.low]
    length = minus(looks.high, looks.low)
    return [plus(looks.low, times(length, (k, steps))) for k in range(steps + 1)]


def can_tell(looks, c):
    """Sum(places, numbers) that make c, or Hidden(z), which bars it."""
    check_number(looks, c)
    places = places_enough(looks)
    found = solved(Table([row_at(looks, place) for place in places]).turned(), c)
    if isinstance(found, NoAnswer):
        return Hidden(found.row)
    used = [(place, number) for place, number in zip(places, found.row) if not is_nought(number)]
    return Sum([place for place, _ in used], [number for _, number in used])


def is_told_rightly(looks, c, told):
    """Whether told is what can_tell describes."""
    check_number(looks, c)
    if isinstance(told, Hidden):
        return is_hidden(looks, c, told.z)
    return isinstance(told, Sum) and _makes(looks, c, told.places, told.numbers)


def is_hidden(looks, c, z):
    """Whether any value is a row that no place of the looks sees, and of which c tells 1."""
    return is_exact_row(z, width(looks)) and is_unseen(looks, z) and dot(z, c) == (1, 1)


def unseen_row(looks):
    """A row, not all 0, that no place of the looks sees; None without one."""
    many = width(looks)
    for k in range(many):
        found = can_tell(looks, [1 if i == k else 0 for i in range(many)])
        if isinstance(found, Hidden):
            return found.z
    return None


def is_unseen(looks, z):
    """Whether z . r is 0 for the rows r of all places."""
    if isinstance(looks, Rows):
        return all([is_nought(dot(row, z)) for row in looks.rows])
    return line_on(looks, z).degree() < 0


def _makes(looks, c, places, numbers):
    """Whether any values are ascending places, and numbers other than 0 with which their rows make c."""
    if not isinstance(places, tuple) or not all([is_exact(place) and is_place(looks, place) for place in places]):
        return False
    if not ascends(places) or not is_exact_row(numbers, len(places)) or any([is_nought(item) for item in numbers]):
        return False
    if not places:
        return is_all_nought(c)
    return combined(numbers, [row_at(looks, place) for place in places]) == pairs(c)


def rank_of(looks):
    """The greatest number of places none of whose rows is a sum of multiples of the others."""
    return Table([row_at(looks, place) for place in places_enough(looks)]).rank()
