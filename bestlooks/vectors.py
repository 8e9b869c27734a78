"""Rows of ratios: what is one, and their sums and products."""

from math import gcd

from bestlooks.errors import BadNumber
from bestlooks.ratios import is_ratio, is_whole, lower, lowest, plus, times, together, told


def kept(value):
    """What an object keeps of a value that it is given: the value itself, or a list's copy as a tuple."""
    return tuple(value) if isinstance(value, list) else value


def pair(value):
    """A ratio as a pair."""
    return told(value, "ratio")


def pairs(row):
    """A row of ratios as a tuple of pairs."""
    return tuple([pair(item) for item in row])


def gap_of(bits):
    """2 to the power of -bits; BadNumber("bits", bits) unless bits are an integer from 0 to 60."""
    if not is_whole(bits) or bits < 0 or bits > 60:
        raise BadNumber("bits", bits)
    return (1, 1 << bits)


def is_row(value, many):
    """Whether any value is a tuple or list of so many ratios."""
    return isinstance(value, (tuple, list)) and len(value) == many and all([is_ratio(item) for item in value])


def are_rows(value):
    """Whether any value is one or more rows of as many ratios each, at least one."""
    if not isinstance(value, (tuple, list)) or not value:
        return False
    first = value[0]
    if not isinstance(first, (tuple, list)) or not first:
        return False
    return all([is_row(row, len(first)) for row in value])


def is_exact(value):
    """Whether any value that is judged is a ratio: an integer, or a tuple of two, no list."""
    return is_ratio(value) and not isinstance(value, list)


def is_exact_row(value, many):
    """Whether any value that is judged is a tuple of so many ratios."""
    return isinstance(value, tuple) and len(value) == many and all([is_exact(item) for item in value])


def is_below(value):
    """Whether a ratio is below 0."""
    return pair(value)[0] < 0


def is_above(value):
    """Whether a ratio is above 0."""
    return pair(value)[0] > 0


def is_nought(value):
    """Whether a ratio is 0."""
    return pair(value)[0] == 0


def is_from_nought(row):
    """Whether all ratios of a row are from 0 on."""
    return not any([is_below(item) for item in row])


def is_all_nought(row):
    """Whether all ratios of a row are 0."""
    return all([is_nought(item) for item in row])


def is_size(value):
    """Whether any value that is passed is a ratio above 0."""
    return is_ratio(value) and is_above(value)


def ascends(row):
    """Whether each ratio of a row is below the next one."""
    return all([lower(one, other) for one, other in zip(row, row[1:])])


def by_size(row):
    """The pairs of a row in ascending order by their values."""
    tops, _ = together(row)
    return [item for _, item in sorted([(top, item) for top, item in zip(tops, row)])]


def is_less(one, other):
    """Whether a pair is below another one, both in any terms."""
    return one[0] * other[1] < other[0] * one[1]


def greatest(row):
    """The greatest pair of a row."""
    best = row[0]
    for item in row:
        if is_less(best, item):
            best = item
    return best


def power(value, many):
    """A ratio to the power of an integer from 0 on."""
    top, bottom = pair(value)
    high, low = 1, 1
    for _ in range(many):
        high, low = high * top, low * bottom
    return (high, low)


def absolute(value):
    """A ratio without its sign."""
    top, bottom = pair(value)
    return (abs(top), bottom)


def negative(row):
    """A row of ratios, each with the other sign."""
    return tuple([times(-1, item) for item in row])


def scaled(row, factor):
    """A row of ratios, each times a ratio."""
    return tuple([times(item, factor) for item in row])


def total(row):
    """The sum of a row of ratios."""
    tops, bottom = together(pairs(row))
    return lowest(sum(tops), bottom)


def dot(row, other):
    """The sum of the products of the ratios at the same place of two rows."""
    tops, bottom = together(pairs(row))
    factors, low = together(pairs(other))
    return lowest(sum([top * factor for top, factor in zip(tops, factors)]), bottom * low)


def combined(numbers, rows):
    """The sum of as many rows as there are numbers, each times its number."""
    return tuple([dot(numbers, column) for column in zip(*rows)])


def joined(row, other):
    """The sum of two rows."""
    return tuple([plus(one, two) for one, two in zip(row, other)])


def divisor(wholes):
    """The greatest common divisor of integers."""
    found = 0
    for item in wholes:
        found = gcd(found, item)
    return found


def whole(row):
    """The integers without a common divisor that a row of ratios is, times a ratio; and this ratio, above 0."""
    tops, bottom = together(pairs(row))
    by = divisor(tops)
    if by == 0:
        return tops, (1, 1)
    return [top // by for top in tops], lowest(bottom, by)
