"""What several tests need to hold answers and judges against sums of their own."""

import inspect
from fractions import Fraction

from bestlooks.errors import LookError

# Values of other kinds than any judge expects.
ANYTHING = (
    None, True, False, 0, 1, -1, 1.5, "", "Split", b"x", (), [], {}, {1: 2}, {1, 2}, object(), object, int, len,
    (1, 2), [1, 2], ((1, 2),), ((0, 1), (1, 1)), (None,), ((),), range(2), iter(()), Fraction(1, 2),
)


class Numbers:
    """Integers in an order that looks like none, always the same ones for the same seed."""

    def __init__(self, seed):
        self.state = seed * 2654435761 + 12345

    def below(self, many):
        self.state = (self.state * 6364136223846793005 + 1442695040888963407) % 2 ** 64
        return (self.state >> 33) % many

    def between(self, low, high):
        return low + self.below(high - low + 1)

    def one_of(self, row):
        return row[self.below(len(row))]

    def ratio(self, size=9, bottom=4):
        return (self.between(-size, size), self.between(1, bottom))

    def long(self, digits=40):
        """A ratio with so many digits above and below."""
        tops = [self.between(1, 9)] + [self.below(10) for _ in range(digits - 1)]
        lows = [self.between(1, 9)] + [self.below(10) for _ in range(digits - 1)]
        sign = self.one_of((1, -1))
        return (sign * int("".join(map(str, tops))), int("".join(map(str, lows))))

    def row(self, many, size=9, bottom=4):
        return [self.ratio(size, bottom) for _ in range(many)]

    def rows(self, height, many, size=9, bottom=4):
        return [self.row(many, size, bottom) for _ in range(height)]


def fr(value):
    """A ratio, however it is passed, as a Fraction."""
    return Fraction(value) if isinstance(value, int) else Fraction(value[0], value[1])


def frs(row):
    return [fr(item) for item in row]


def frss(rows):
    return [frs(row) for row in rows]


def pair_of(value):
    """A Fraction or an integer as a ratio is told."""
    value = Fraction(value)
    return (value.numerator, value.denominator)


def pairs_of(row):
    return tuple(pair_of(item) for item in row)


def dotted(row, other):
    """The sum of the products of two rows of Fractions."""
    assert len(row) == len(other)
    return sum((one * two for one, two in zip(row, other)), Fraction(0))


def is_pair(value):
    """Whether a value is a ratio as it is told: a tuple of two integers in lowest terms, the second one above 0."""
    if not isinstance(value, tuple) or len(value) != 2 or any(type(item) is not int for item in value):
        return False
    return value[1] > 0 and pair_of(fr(value)) == value


def is_pair_row(value, many):
    return isinstance(value, tuple) and len(value) == many and all(is_pair(item) for item in value)


def is_judged(value):
    """Whether a value that is judged is a ratio."""
    if type(value) is int:
        return True
    return isinstance(value, tuple) and len(value) == 2 and all(type(item) is int for item in value) and value[1] > 0


def is_judged_row(value, many):
    return isinstance(value, tuple) and len(value) == many and all(is_judged(item) for item in value)


def rank_by_hand(rows):
    """The rank of rows of Fractions."""
    rows = [list(row) for row in rows]
    rank = 0
    for column in range(len(rows[0]) if rows else 0):
        found = next((k for k in range(rank, len(rows)) if rows[k][column] != 0), None)
        if found is None:
            continue
        rows[rank], rows[found] = rows[found], rows[rank]
        for k in range(rank + 1, len(rows)):
            factor = rows[k][column] / rows[rank][column]
            rows[k] = [one - factor * two for one, two in zip(rows[k], rows[rank])]
        rank += 1
    return rank


def solve_by_hand(rows, right):
    """Some Fractions x such that each row . x is its item of right; None if there are none."""
    wide = len(rows[0])
    lines = [[Fraction(item) for item in row] + [Fraction(item)] for row, item in zip(rows, right)]
    used = []
    for column in range(wide):
        at = len(used)
        found = next((k for k in range(at, len(lines)) if lines[k][column] != 0), None)
        if found is None:
            continue
        lines[at], lines[found] = lines[found], lines[at]
        lines[at] = [item / lines[at][column] for item in lines[at]]
        for k in range(len(lines)):
            if k != at:
                factor = lines[k][column]
                lines[k] = [one - factor * two for one, two in zip(lines[k], lines[at])]
        used.append(column)
    if any(line[-1] != 0 for line in lines[len(used):]):
        return None
    result = [Fraction(0)] * wide
    for at, column in enumerate(used):
        result[column] = lines[at][-1]
    return result


def spread_by_hand(table, c):
    """The spread of c under a table, rows of Fractions; None if there is none."""
    found = solve_by_hand([list(column) for column in zip(*table)], c)
    return None if found is None else dotted(found, c)


def table_by_hand(rows, shares):
    """The sum of all shares times the products of the rows' items."""
    wide = range(len(rows[0]))
    return [[sum(part * row[i] * row[j] for row, part in zip(rows, shares)) for j in wide] for i in wide]


def form_by_hand(table, row):
    return dotted(row, [dotted(line, row) for line in table])


def given(value):
    """What an object was created with, as its attributes tell it."""
    return [getattr(value, name) for name in inspect.signature(type(value)).parameters]


def remade(value, change):
    """An object of the same class, its attributes changed."""
    return type(value)(*[change(item) for item in given(value)])


def is_object(value):
    return type(value).__module__.startswith("bestlooks.")


def in_other_terms(value):
    """A told value with the same ratios in other terms."""
    if is_object(value):
        return remade(value, in_other_terms)
    if is_judged(value) and not isinstance(value, int):
        return (value[0] * 6, value[1] * 6)
    if isinstance(value, tuple):
        return tuple(in_other_terms(item) for item in value)
    return value


def variants(value):
    """Values that are as the told one but for one thing."""
    if is_object(value):
        yield from _objects(value)
    elif is_judged(value) and not isinstance(value, int):
        top, bottom = value
        yield from ((top + 1, bottom), (top - 1, bottom), (-top, bottom), (top, bottom + 1), (top, -bottom), (top, 0))
        yield from ([top, bottom], (top, bottom, 1), (True, bottom), (top, True), top + 1, None, (float(1), 1), (3, 1))
        yield from ((top * 10 ** 12 + 1, bottom * 10 ** 12), (top * 10 ** 12 - 1, bottom * 10 ** 12), (0, 1))
    elif type(value) is int:
        yield from (value + 1, value - 1, (value, 1), (2 * value, 2), [value, 1], True, False, None, str(value))
    elif isinstance(value, tuple):
        yield from (list(value), value[:-1], value[1:], value[::-1], value + ((0, 1),), value + value[:1], None, 0)
        for k, item in enumerate(value):
            for other in variants(item):
                yield value[:k] + (other,) + value[k + 1:]
    elif value is None:
        yield from (0, (0, 1), (), False, "", (1, 1))


def _objects(value):
    fields = given(value)
    for k, field in enumerate(fields):
        for other in variants(field):
            try:
                yield type(value)(*fields[:k], other, *fields[k + 1:])
            except (LookError, TypeError):
                pass


def hold_judge(case, judge, arguments, told, reference, others=(), renewed=in_other_terms):
    """The judge says the same as the reference of each value that differs from told in one thing, and of others.

    It must find the told value right, also in other terms, as renewed makes them, and everything else wrong.
    """
    case.assertIs(reference(told), True, vars(told) if is_object(told) else told)
    case.assertIs(judge(*arguments, told), True)
    case.assertIs(judge(*arguments, renewed(told)), True)
    for value in variants(told):
        expected = reference(value)
        found = judge(*arguments, value)
        case.assertIs(found, expected, (type(value), vars(value) if is_object(value) else value))
    for value in ANYTHING + tuple(others):
        case.assertIs(judge(*arguments, value), False, value)
