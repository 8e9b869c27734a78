"""Telling a rival, a list that says what there is, from what there is indeed."""

from bestlooks.errors import BadRow
from bestlooks.looks import Design, check_places, has_places, rows_of, table_of, width
from bestlooks.ratios import lower, minus, times
from bestlooks.sums import largest
from bestlooks.tables import spread_under
from bestlooks.vectors import absolute, combined, dot, is_exact, is_exact_row, is_nought, is_row, joined, kept
from bestlooks.vectors import negative, pairs


class Parted:
    """The miss of a rival, a Design whose parting is its square, and a row with which no place is missed by more."""

    def __init__(self, miss, design, t):
        self.miss = kept(miss)
        self.design = kept(design)
        self.t = kept(t)


def _check_values(rows, values):
    """BadRow(values) for what is no row of as many ratios as the list has rows."""
    if not is_row(values, len(rows.rows)):
        raise BadRow(values)


def parting(rows, values, design):
    """The least sum of all shares times the square of what a place is missed by, over all rows t."""
    check_places(rows, design)
    _check_values(rows, values)
    told = [values[place[0]] for place in design.places]
    weighted = [times(value, part) for value, part in zip(told, design.shares)]
    # The sums of all rows times weighted values are made by rows of the table, so that there is always a spread.
    return minus(dot(weighted, told), spread_under(table_of(rows, design), combined(weighted, rows_of(rows, design))))


def best_parting(rows, values):
    """Parted(miss, design, t) of a rival and the values that are there."""
    _check_values(rows, values)
    # Spots are t as two rows from 0 on, and how far all places are missed at most, which is to be least.
    bounds = [line + negative(line) + ((-1, 1),) for line in rows.rows]
    bounds = bounds + [negative(line) + line + ((-1, 1),) for line in rows.rows]
    many = width(rows)
    found = largest(bounds, pairs(values) + negative(values), [0] * (2 * many) + [-1])
    miss = found.spots[2 * many]
    t = joined(found.spots[:many], negative(found.spots[many:2 * many]))
    if is_nought(miss):
        return Parted(miss, Design((0,), (1,)), t)
    count = len(rows.rows)
    weights = joined(found.weights[:count], found.weights[count:])
    used = [k for k, weight in enumerate(weights) if not is_nought(weight)]
    return Parted(miss, Design(used, [weights[k] for k in used]), t)


def is_best_parting(rows, values, told):
    """Whether told is what best_parting describes."""
    _check_values(rows, values)
    if not isinstance(told, Parted) or not is_exact(told.miss) or not isinstance(told.design, Design):
        return False
    if not has_places(rows, told.design) or len(told.design.places) > width(rows) + 1:
        return False
    if not is_exact_row(told.t, width(rows)):
        return False
    if any([lower(told.miss, absolute(minus(item, dot(row, told.t)))) for row, item in zip(rows.rows, values)]):
        return False
    return parting(rows, values, told.design) == times(told.miss, told.miss)
