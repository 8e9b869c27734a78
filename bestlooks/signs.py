"""Signs of polynomials on stretches, and bounds for all places of looks."""

from math import comb, lcm

from bestlooks.errors import BadNumber
from bestlooks.looks import Rows, check_stretch, check_table, form_on
from bestlooks.polys import Poly, common, divided
from bestlooks.ratios import floor_of, is_ratio, lower, minus, plus, share, times, together
from bestlooks.tables import form_of
from bestlooks.vectors import ascends, gap_of, is_below, is_exact, kept, pair


# Any prime will do that seldom divides anything.
PRIME = 2305843009213693951

# So many halvings are tried before squares are taken apart.
FEW = 24


class Split:
    """Two Polys, root and rest, and cuts that show that rest * root * root is from 0 on."""

    def __init__(self, root, rest, cuts):
        self.root = kept(root)
        self.rest = kept(rest)
        self.cuts = kept(cuts)


class Below:
    """A place, and the value below 0 there."""

    def __init__(self, place, number):
        self.place = kept(place)
        self.number = kept(number)


class Floor:
    """The greatest multiple of the gap that a Poly is nowhere below, a Split, and a place near it."""

    def __init__(self, number, split, place):
        self.number = kept(number)
        self.split = kept(split)
        self.place = kept(place)


class Capped:
    """What shows that a bound holds at all places."""

    def __init__(self, split):
        self.split = kept(split)


class Over:
    """A place, and the number above the bound there."""

    def __init__(self, place, number):
        self.place = kept(place)
        self.number = kept(number)


def _corners(poly, low, high):
    """The corners of a Poly from low to high: integers that stand for them over one bottom, and this bottom."""
    if poly.degree() < 0:
        return [0], 1
    moved, bottom = _moved(poly, low, minus(high, low))
    last = poly.degree()
    scale = 1
    for k in range(last + 1):
        scale = lcm(scale, comb(last, k))
    parts = [number * (scale // comb(last, k)) for k, number in enumerate(moved)]
    return [sum([comb(i, k) * parts[k] for k in range(i + 1)]) for i in range(last + 1)], bottom * scale


def _moved(poly, start, step):
    """The numbers of poly at start + step * x: integers that stand for them over one bottom, and this bottom."""
    (first, by), below = together((start, step))
    tops, bottom = together(poly.numbers)
    row, power = [], 1
    for top in reversed(tops):
        row = [first * one + by * other for one, other in zip(row + [0], [0] + row)]
        row[0] = row[0] + top * power
        power = power * below
    return row, bottom * (power // below)


def _halves(corners):
    """The corners on both halves of a stretch, all times the same number above 0."""
    row = corners
    left, right = [], []
    for power in reversed(range(len(corners))):
        left.append(row[0] << power)
        right.append(row[-1] << power)
        row = [one + other for one, other in zip(row, row[1:])]
    return left, right[::-1]


def _is_surely_simple(poly):
    """Whether a Poly has no factor in common with its slope, even in integers counted round by a prime.

    A square that divides it would be such a factor there too, as long as its greatest power stays.
    """
    one = [top % PRIME for top in together(poly.numbers)[0]]
    if one[-1] == 0:
        return False
    other = _counted([k * number for k, number in enumerate(one)][1:])
    while other:
        one, other = other, _rest_counted(one, other)
    return len(one) == 1


def _counted(row):
    """The numbers of a polynomial counted round by the prime, up to the last one that is not 0."""
    row = [number % PRIME for number in row]
    while row and row[-1] == 0:
        row.pop()
    return row


def _rest_counted(one, other):
    """What a division of one by other leaves, times some number, counted round by the prime."""
    while len(one) >= len(other):
        shifted = [0] * (len(one) - len(other)) + other
        one = _counted([number * other[-1] - one[-1] * taken for number, taken in zip(one, shifted)])
    return one


def _squares_apart(poly):
    """Polys root and rest such that poly is rest * root * root, and no square divides rest."""
    root = Poly((1,))
    if poly.degree() < 2 or _is_surely_simple(poly):
        return root, poly
    twice = common(poly, poly.slope())
    once = divided(poly, twice)[0]
    level = 1
    # Behind each step, once is the product of all factors that poly has more than level times.
    while once.degree() > 0:
        if level % 2 == 0:
            root = root * once
        once = common(once, twice)
        twice = divided(twice, once)[0]
        level += 1
    return root, divided(poly, root * root)[0]


def nowhere_below(poly, low, high):
    """A Split of poly from low to high, or Below(place, number), which bars it."""
    check_stretch(low, high)
    start, end = pair(low), pair(high)
    for place in (start, end):
        if is_below(poly.at(place)):
            return Below(place, poly.at(place))
    # To take squares apart is slow, and mostly there are none.
    found = _cut(poly, (Poly((1,)), poly), start, end, FEW)
    if found is None:
        found = _cut(poly, _squares_apart(poly), start, end, None)
    return found


def _cut(poly, parts, start, end, most):
    """A Split of poly into these parts, root and rest, or Below; None if it takes more than most halvings."""
    root, rest = parts
    waiting = [(_corners(rest, start, end)[0], start, end)]
    cuts = []
    halvings = 0
    while waiting:
        corners, low, high = waiting.pop()
        if min(corners) >= 0:
            cuts.append(high)
            continue
        if halvings == most:
            return None
        halvings += 1
        left, right = _halves(corners)
        middle = times(plus(low, high), (1, 2))
        # Where root is 0, poly is 0 for all that rest is: a place further on will do.
        if right[0] < 0 and is_below(poly.at(middle)):
            return Below(middle, poly.at(middle))
        waiting.append((right, middle, high))
        waiting.append((left, low, middle))
    return Split(root, rest, cuts[:-1])


def is_split(poly, low, high, told):
    """Whether told is a Split of poly from low to high."""
    check_stretch(low, high)
    if not isinstance(told, Split) or not isinstance(told.root, Poly) or not isinstance(told.rest, Poly):
        return False
    if not isinstance(told.cuts, tuple) or not all([is_exact(cut) for cut in told.cuts]):
        return False
    ends = [pair(low)] + [pair(cut) for cut in told.cuts] + [pair(high)]
    if not ascends(ends) or told.rest * told.root * told.root != poly:
        return False
    return all([min(_corners(told.rest, one, other)[0]) >= 0 for one, other in zip(ends, ends[1:])])


def least_of(poly, low, high, bits):
    """Floor(number, split, place): the greatest multiple of 2 ** -bits that poly is nowhere below."""
    check_stretch(low, high)
    gap = gap_of(bits)
    place = _near_least(poly, pair(low), pair(high), bits)
    while True:
        number = times(floor_of(share(poly.at(place), gap)), gap)
        found = nowhere_below(poly - number, low, high)
        if isinstance(found, Split):
            return Floor(number, found, place)
        place = found.place


def _near_least(poly, start, end, bits):
    """A place at which poly is less than two gaps of these bits above its least value."""
    corners, bottom = _corners(poly, start, end)
    values = [((corners[0] << bits) // bottom, start), ((corners[-1] << bits) // bottom, end)]
    stretches = [(corners, start, end)]
    while True:
        most, place = min(values)
        stretches = [part for part in stretches if (min(part[0]) << bits) // bottom < most]
        if all([(min(part[0]) << bits) // bottom >= most - 1 for part in stretches]):
            return place
        bottom = bottom << (len(corners) - 1)
        halves = []
        for row, low, high in stretches:
            left, right = _halves(row)
            middle = times(plus(low, high), (1, 2))
            values.append(((right[0] << bits) // bottom, middle))
            halves.append((left, low, middle))
            halves.append((right, middle, high))
        stretches = halves


def _check_bound(looks, table, bound):
    """The errors of a Table and a bound for looks, in their order."""
    check_table(looks, table)
    if not is_ratio(bound):
        raise BadNumber("bound", bound)


def capped(looks, table, bound):
    """Capped(split) if r A r is at most bound at all places, or Over(place, number)."""
    _check_bound(looks, table, bound)
    if isinstance(looks, Rows):
        for k, row in enumerate(looks.rows):
            number = form_of(table, row)
            if lower(bound, number):
                return Over((k, 1), number)
        return Capped(None)
    found = nowhere_below(_room(looks, table, bound), looks.low, looks.high)
    if isinstance(found, Split):
        return Capped(found)
    return Over(found.place, minus(bound, found.number))


def _room(curve, table, bound):
    """The Poly of what r A r leaves of the bound at each place."""
    return Poly((bound,)) - form_on(curve, table)


def is_capped(looks, table, bound, told):
    """Whether told is a Capped that capped describes."""
    _check_bound(looks, table, bound)
    if not isinstance(told, Capped):
        return False
    if isinstance(looks, Rows):
        if told.split is not None:
            return False
        return not any([lower(bound, form_of(table, row)) for row in looks.rows])
    return is_split(_room(looks, table, bound), looks.low, looks.high, told.split)
