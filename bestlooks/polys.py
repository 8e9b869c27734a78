"""Polynomials in x whose numbers are ratios."""

from itertools import zip_longest

from bestlooks.errors import BadNumber, BadRow
from bestlooks.ratios import is_ratio, lowest, minus, plus, share, times, together, told


class Poly:
    """The polynomial with these numbers for the powers 0, 1, 2, .."""

    def __init__(self, numbers):
        if not _is_row(numbers):
            raise BadRow(numbers)
        pairs = [told(number, "ratio") for number in numbers]
        while pairs and pairs[-1][0] == 0:
            pairs.pop()
        self.numbers = tuple(pairs)

    def __eq__(self, other):
        return isinstance(other, Poly) and self.numbers == other.numbers

    def __add__(self, other):
        poly = _as_poly(other)
        if poly is None:
            return NotImplemented
        return _sum(self, poly)

    def __radd__(self, other):
        poly = _as_poly(other)
        if poly is None:
            return NotImplemented
        return _sum(poly, self)

    def __sub__(self, other):
        poly = _as_poly(other)
        if poly is None:
            return NotImplemented
        return _sum(self, -poly)

    def __rsub__(self, other):
        poly = _as_poly(other)
        if poly is None:
            return NotImplemented
        return _sum(poly, -self)

    def __mul__(self, other):
        poly = _as_poly(other)
        if poly is None:
            return NotImplemented
        return _product(self, poly)

    def __rmul__(self, other):
        poly = _as_poly(other)
        if poly is None:
            return NotImplemented
        return _product(poly, self)

    def __neg__(self):
        return Poly([(-top, bottom) for top, bottom in self.numbers])

    def degree(self):
        """The greatest power with a number other than 0; -1 if there is none."""
        return len(self.numbers) - 1

    def at(self, place):
        """The value at a ratio."""
        top, bottom = told(place, "place")
        tops, low = together(self.numbers)
        # All in integers: reducing once at the end is much quicker than at each step.
        total, scale = 0, 1
        for number in reversed(tops):
            total = total * top + number * scale
            scale = scale * bottom
        return lowest(total * bottom, low * scale)

    def slope(self):
        """The Poly with k times the number of x ** k for the power k - 1."""
        return Poly([times(k, number) for k, number in enumerate(self.numbers)][1:])

    def moved(self, start, step):
        """The Poly whose value at each x is that of this one at start + step * x."""
        line = Poly((told(start, "start"), told(step, "step")))
        result = Poly(())
        for number in reversed(self.numbers):
            result = result * line + number
        return result


def _is_row(value):
    """Whether any value is a tuple or list of ratios."""
    return isinstance(value, (tuple, list)) and all([is_ratio(item) for item in value])


def _as_poly(value):
    """A Poly, or a ratio that is an integer or a tuple, as a Poly; None for any other value."""
    if isinstance(value, Poly):
        return value
    if isinstance(value, list) or not is_ratio(value):
        return None
    return Poly((value,))


def _sum(one, other):
    """The sum of two Polys."""
    return Poly([plus(a, b) for a, b in zip_longest(one.numbers, other.numbers, fillvalue=0)])


def _product(one, other):
    """The product of two Polys."""
    tops, bottom = together(one.numbers)
    factors, low = together(other.numbers)
    many = len(tops) + len(factors) - 1
    return Poly([(_number_at(tops, factors, power), bottom * low) for power in range(many)])


def _number_at(tops, factors, power):
    """The number of one power in the product of two rows of integers."""
    first = max(0, power - len(factors) + 1)
    last = min(power, len(tops) - 1)
    return sum([tops[k] * factors[power - k] for k in range(first, last + 1)])


def divided(one, other):
    """The pair (quotient, rest): one is quotient * other + rest, rest of a lower degree than other."""
    if other.degree() < 0:
        raise BadNumber("divisor", 0)
    rest = list(one.numbers)
    shares = []
    while len(rest) > other.degree():
        part = share(rest[-1], other.numbers[-1])
        start = len(rest) - len(other.numbers)
        for k, number in enumerate(other.numbers):
            rest[start + k] = minus(rest[start + k], times(part, number))
        rest.pop()
        shares.append(part)
    return (Poly(shares[::-1]), Poly(rest))


def common(one, other):
    """The Poly of the greatest degree that divides both, its greatest power having the number 1."""
    while other.degree() >= 0:
        one, other = other, _led_by_one(divided(one, other)[1])
    return _led_by_one(one)


def _led_by_one(poly):
    """A Poly divided by the number of its greatest power, if it has one."""
    if poly.degree() < 0:
        return poly
    return poly * share(1, poly.numbers[-1])
