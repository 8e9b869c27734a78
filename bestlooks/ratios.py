"""Ratios: told as pairs (top, bottom) of integers in lowest terms, bottom above 0."""

from math import gcd, lcm

from bestlooks.errors import BadNumber


def is_whole(value):
    """Whether any value is an integer; True and False are none."""
    return isinstance(value, int) and not isinstance(value, bool)


def is_ratio(value):
    """Whether any value is an integer, or a pair of integers with the second one above 0."""
    if not isinstance(value, (tuple, list)):
        return is_whole(value)
    return len(value) == 2 and is_whole(value[0]) and is_whole(value[1]) and value[1] > 0


def lowest(top, bottom):
    """The pair of top / bottom in lowest terms, for a bottom above 0."""
    by = gcd(top, bottom)
    return (top // by, bottom // by)


def told(value, what):
    """A ratio as a pair in lowest terms; BadNumber(what, value) for any other value."""
    if not is_ratio(value):
        raise BadNumber(what, value)
    if isinstance(value, int):
        return (value, 1)
    return lowest(value[0], value[1])


def plus(one, other):
    """The sum of two ratios."""
    top, bottom = told(one, "ratio")
    high, low = told(other, "ratio")
    return lowest(top * low + high * bottom, bottom * low)


def minus(one, other):
    """One ratio less the other one."""
    top, bottom = told(one, "ratio")
    high, low = told(other, "ratio")
    return lowest(top * low - high * bottom, bottom * low)


def times(one, other):
    """The product of two ratios."""
    top, bottom = told(one, "ratio")
    high, low = told(other, "ratio")
    return lowest(top * high, bottom * low)


def share(one, other):
    """One ratio divided by the other one."""
    top, bottom = told(one, "ratio")
    high, low = told(other, "ratio")
    if high == 0:
        raise BadNumber("divisor", other)
    if high < 0:
        high, low = -high, -low
    return lowest(top * low, bottom * high)


def lower(one, other):
    """Whether one ratio is below the other one."""
    top, bottom = told(one, "ratio")
    high, low = told(other, "ratio")
    return top * low < high * bottom


def floor_of(value):
    """The greatest integer that is not above a ratio."""
    top, bottom = told(value, "ratio")
    return top // bottom


def ratio_text(value):
    """The text of a ratio in lowest terms, such as -3/4 or 5."""
    top, bottom = told(value, "ratio")
    sign = "-" if top < 0 else ""
    below = "" if bottom == 1 else "/" + _digits(bottom)
    return sign + _digits(abs(top)) + below


def _digits(whole):
    """The digits of an integer from 0 on."""
    # Python refuses to write out a very long integer at once, so it is written in parts.
    parts = []
    while whole >= 10 ** 64:
        whole, part = divmod(whole, 10 ** 64)
        parts.append(str(part).zfill(64))
    parts.append(str(whole))
    return "".join(parts[::-1])


def together(pairs):
    """The tops of told pairs over their least common bottom, and this bottom."""
    bottom = 1
    for pair in pairs:
        bottom = lcm(bottom, pair[1])
    return [top * (bottom // low) for top, low in pairs], bottom
