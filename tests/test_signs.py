"""Promise [15]: signs of polynomials on stretches."""

import unittest
from fractions import Fraction
from math import comb

from bestlooks.errors import BadInterval, BadNumber
from bestlooks.polys import Poly
from bestlooks.signs import Below, Floor, Split, is_split, least_of, nowhere_below
from tests.judging import Numbers, fr, frs, hold_judge, is_judged, is_pair, is_pair_row, pair_of
from tests.values import NO_RATIOS, expect

X = Poly((0, 1))
BAD_BITS = (-1, 61, True, False, None, "3", 1.0, (3, 1), [3], (), 10 ** 40)


def value_at(poly, place):
    return sum((fr(number) * fr(place) ** k for k, number in enumerate(poly.numbers)), Fraction(0))


def product_by_hand(one, other):
    found = [Fraction(0)] * (len(one) + len(other))
    for i, a in enumerate(one):
        for j, b in enumerate(other):
            found[i + j] += a * b
    while found and found[-1] == 0:
        found.pop()
    return found


def corners_by_hand(numbers, low, high):
    """The corners of the polynomial with these numbers, found from its values by solving for them one by one."""
    moved = [Fraction(0)]
    for number in reversed(numbers):
        moved = [a * low + b * (high - low) for a, b in zip(moved + [Fraction(0)], [Fraction(0)] + moved)]
        moved[0] += number
    last = max(len(numbers) - 1, 0)
    moved = (moved + [Fraction(0)] * (last + 1))[:last + 1]
    corners = []
    for i in range(last + 1):
        corners.append(sum((Fraction(comb(i, k), comb(last, k)) * moved[k] for k in range(i + 1)), Fraction(0)))
    return corners


def is_right_split(poly, low, high, told):
    """What [15] says of a told Split, by products and corners of the test's own."""
    if type(told) is not Split or type(told.root) is not Poly or type(told.rest) is not Poly:
        return False
    if not isinstance(told.cuts, tuple) or not all(is_judged(cut) for cut in told.cuts):
        return False
    ends = [fr(low)] + frs(told.cuts) + [fr(high)]
    if any(one >= two for one, two in zip(ends, ends[1:])):
        return False
    root, rest = frs(told.root.numbers), frs(told.rest.numbers)
    if product_by_hand(rest, product_by_hand(root, root)) != frs(poly.numbers):
        return False
    return all(min(corners_by_hand(rest, one, two)) >= 0 for one, two in zip(ends, ends[1:]))


class Corners(unittest.TestCase):
    def test_by_the_sum(self):
        # The test's own corners fulfil the sum that tells them.
        numbers = Numbers(40)
        for _ in range(20):
            row, low = frs(numbers.row(numbers.between(1, 7))), fr(numbers.ratio())
            high = low + Fraction(numbers.between(1, 9), 7)
            corners = corners_by_hand(row, low, high)
            last = len(corners) - 1
            for s in (Fraction(0), Fraction(1, 3), Fraction(1), Fraction(5, 2)):
                made = sum(b * comb(last, i) * s ** i * (1 - s) ** (last - i) for i, b in enumerate(corners))
                self.assertEqual(made, sum(a * (low + (high - low) * s) ** k for k, a in enumerate(row)))


class NowhereBelow(unittest.TestCase):
    def splits(self, poly, low, high):
        found = nowhere_below(poly, low, high)
        self.assertIs(type(found), Split, (poly.numbers, low, high))
        self.assertTrue(is_right_split(poly, low, high, found))
        self.assertTrue(is_pair_row(found.cuts, len(found.cuts)))
        self.assertIs(is_split(poly, low, high, found), True)
        return found

    def below(self, poly, low, high):
        found = nowhere_below(poly, low, high)
        self.assertIs(type(found), Below, (poly.numbers, low, high))
        self.assertTrue(is_pair(found.place) and is_pair(found.number))
        self.assertTrue(fr(low) <= fr(found.place) <= fr(high))
        self.assertEqual(fr(found.number), value_at(poly, found.place))
        self.assertTrue(fr(found.number) < 0)
        self.assertIs(is_split(poly, low, high, found), False)

    def test_low_degrees(self):
        self.splits(Poly(()), 0, 1)
        self.splits(Poly((3,)), -1, (1, 2))
        self.splits(Poly(((1, 10 ** 40),)), -1, 1)
        self.below(Poly((-3,)), -1, 1)
        self.below(Poly(((-1, 10 ** 40),)), -1, 1)
        self.splits(X, 0, 1)
        self.splits(1 - X, [0, 5], 1)
        self.below(X, (-1, 10 ** 12), 1)
        self.below(1 - X, 0, (10 ** 12 + 1, 10 ** 12))
        self.splits(X * X, -1, 1)
        self.below(-X * X, 0, 1)
        self.below(-X * X, -1, 0)

    def test_touches_at_ratios(self):
        for place in ((1, 3), (-5, 7), (1, 2), (10 ** 12 + 1, 3 * 10 ** 12)):
            once = X - place
            self.splits(once * once, -1, 1)
            self.splits(once * once * (X + 1), -1, 1)
            self.splits(once * once * (1 - X), -1, 1)
            self.splits(once * once * (1 - X * X), -1, 1)
            self.splits(once * once * once * once, -1, 1)
            self.splits(once * once * (X - (1, 5)) * (X - (1, 5)), -1, 1)
            self.below(once, -1, 1)
            self.below(once * once * once, -1, 1)
            self.below(-(once * once), -1, 1)
            self.below(-(once * once * once * once), -1, 1)

    def test_touches_at_no_ratios(self):
        for number in (2, 3, (1, 2), (7, 5)):
            once = X * X - number
            self.splits(once * once, -2, 2)
            self.splits(once * once * (X + 2), -2, 2)
            self.splits(once * once * once * once * (X + 5) * (X + 5), -2, 2)
            self.splits((X * X * X - number) * (X * X * X - number) * once * once, -2, 2)
            self.below(once * once * once, -2, 2)
            self.below(once, -2, 2)
            self.below(-(once * once), -2, 2)
        # A root of an even power within, and one of an odd power outside.
        self.splits((X * X - 2) * (X * X - 2) * (X - 3) * -1, -2, 2)
        self.below((X * X - 2) * (X * X - 2) * (X - 1) * -1, -2, 2)

    def test_touches_at_the_ends(self):
        self.splits(X * (1 - X), 0, 1)
        self.splits(X * X * X * (1 - X) * (1 - X) * (1 - X), 0, 1)
        self.splits((X - (1, 3)) * ((2, 3) - X), (1, 3), (2, 3))
        self.below((X - (1, 3)) * ((2, 3) - X), (1, 3), (10 ** 12 * 2 + 1, 3 * 10 ** 12))
        self.splits(X * X * (X - 1) * (X - 1) * (X - 2) * (X - 2), 0, 2)
        self.splits(X * (X - 1) * (X - 1) * (2 - X), 0, 2)

    def test_nearly_touches(self):
        for digits in (6, 12, 30):
            little = (1, 10 ** digits)
            for poly in ((X * X - 2) * (X * X - 2), (X - (1, 3)) * (X - (1, 3)), X * X * X * X, X * X * (X * X - 1) * (X * X - 1)):
                self.splits(poly + little, -2, 2)
                self.below(poly - little, -2, 2)

    def test_where_root_is_nought(self):
        # The middles of the stretch are just where the square is 0.
        self.below(-((X - (1, 2)) * (X - (1, 2)) * (X - (1, 4)) * (X - (1, 4)) * (X - (3, 4)) * (X - (3, 4)) * X * X), 0, 1)
        self.below((X - (1, 2)) * (X - (1, 2)) * (X - (1, 3)) * (X - (2, 3)), 0, 1)
        self.below(X * X * (X - 1) * (X - 1) * -1, 0, 1)
        # Where it is 0 at a middle and below 0 beside, but touches 0 elsewhere at no ratio.
        once = X * X - 2
        self.below(once * once * X * X * (X * X - (1, 100)), -2, 2)
        self.below(once * once * X * X * (X - 1) * (X - 1) * (X * X - (1, 10 ** 12)), -2, 2)
        self.splits(once * once * X * X * (X * X + (1, 10 ** 12)), -2, 2)

    def test_numbers_that_a_prime_divides(self):
        # Counted round by a prime, one power after the other may be lost.
        prime = 2 ** 61 - 1
        for once in (X * X * prime - 3, X * X - (2, prime), (X * X - 2) * prime, X * X * prime - X - 3 * prime):
            for beside in (Poly((1,)), X + prime, X * prime + prime ** 3, X * X + (1, prime)):
                self.splits(once * once * beside, -2, 2)
                self.splits(once * once * once * once * beside, -2, 2)

    def test_many(self):
        numbers = Numbers(41)
        kinds = {Split: 0, Below: 0}
        for _ in range(150):
            poly = Poly((1,))
            for _ in range(numbers.between(1, 4)):
                part = Poly(numbers.row(numbers.between(1, 3), 5, 3))
                poly = poly * (part * part if numbers.below(3) else part)
            low = numbers.ratio()
            high = pair_of(fr(low) + Fraction(numbers.between(1, 9), 4))
            kind = type(nowhere_below(poly, low, high))
            kinds[kind] += 1
            (self.splits if kind is Split else self.below)(poly, low, high)
        self.assertTrue(min(kinds.values()) > 20, kinds)

    def test_sizes(self):
        numbers = Numbers(42)
        root = Poly([numbers.long() for _ in range(7)])
        self.splits(root * root, -3, 3)
        self.splits(root * root + (1, 10 ** 40), -3, 3)
        rest = Poly([numbers.between(-9, 9) for _ in range(13)])
        low, high = (-1, 10 ** 39 + 1), (10 ** 39 + 7, 10 ** 40 - 9)
        least = fr(least_of(rest, low, high, 12).number)
        self.splits(rest - pair_of(least), low, high)
        self.below(rest - pair_of(least + Fraction(1, 2 ** 12)), low, high)
        long = Poly([numbers.long() for _ in range(13)])
        self.splits(long * long + 1, -20, 20)


class LeastOf(unittest.TestCase):
    def holds(self, poly, low, high, bits):
        found = least_of(poly, low, high, bits)
        gap = Fraction(1, 2 ** bits)
        self.assertIs(type(found), Floor)
        self.assertTrue(is_pair(found.number) and is_pair(found.place))
        number = fr(found.number)
        self.assertEqual((number / gap).denominator, 1)
        self.assertTrue(is_right_split(poly - found.number, low, high, found.split))
        self.assertIs(is_split(poly - found.number, low, high, found.split), True)
        self.assertTrue(fr(low) <= fr(found.place) <= fr(high))
        self.assertTrue(value_at(poly, found.place) < number + gap)
        return found.number

    def test_ordinary(self):
        self.assertEqual(self.holds(X * X, -1, 1, 5), (0, 1))
        self.assertEqual(self.holds(X * X - 2, -1, 1, 0), (-2, 1))
        self.assertEqual(self.holds(X * X - (1, 3), -1, 1, 3), (-3, 8))
        self.assertEqual(self.holds(X * X + (1, 3), -1, 1, 3), (1, 4))
        self.assertEqual(self.holds(Poly(()), 0, 1, 4), (0, 1))
        self.assertEqual(self.holds(Poly(((-7, 3),)), 0, 1, 1), (-5, 2))
        self.assertEqual(self.holds(X, (1, 3), 1, 2), (1, 4))
        self.assertEqual(self.holds(-X, 0, (1, 3), 2), (-1, 2))

    def test_just_on_a_multiple(self):
        once = X * X - 2
        for number in (0, 5, (-3, 4), (1, 4096)):
            self.assertEqual(self.holds(once * once + number, -2, 2, 12), pair_of(number if isinstance(number, int) else fr(number)))
        little = (1, 10 ** 30)
        self.assertEqual(self.holds(once * once + (1, 2) + little, -2, 2, 1), (1, 2))
        self.assertEqual(self.holds(once * once + (1, 2) - little, -2, 2, 1), (0, 1))
        self.assertEqual(self.holds(once * once - little, -2, 2, 0), (-1, 1))

    def test_all_bits(self):
        poly = X * X * X - X * (1, 3) + (1, 7)
        for bits in list(range(13)) + [30, 60]:
            self.holds(poly, -1, 2, bits)

    def test_many(self):
        numbers = Numbers(43)
        for _ in range(60):
            poly = Poly(numbers.row(numbers.between(1, 9)))
            low = numbers.ratio()
            self.holds(poly, low, pair_of(fr(low) + Fraction(numbers.between(1, 9), 4)), numbers.between(0, 12))

    def test_sizes(self):
        numbers = Numbers(44)
        poly = Poly([numbers.long() for _ in range(13)])
        for bits in (0, 12):
            self.holds(poly, (-10 ** 39, 3 * 10 ** 39 + 1), 2, bits)
        self.holds(Poly([numbers.between(-9, 9) for _ in range(13)]), -20, 20, 12)
        root = Poly([numbers.between(-9, 9) for _ in range(7)])
        self.holds(root * root, -20, 20, 12)


class IsSplit(unittest.TestCase):
    CASES = ((X * X - 2) * (X * X - 2) * (X + 3), X * X + (1, 10 ** 6), Poly(()), Poly((2,)), (1 - X) * (1 + X),
             (X - (1, 3)) * (X - (1, 3)) * (X * X + (1, 1000)))

    def test_changed_in_one_thing(self):
        for poly in self.CASES:
            told = nowhere_below(poly, -1, 1)
            hold_judge(self, is_split, (poly, -1, 1), told, lambda value: is_right_split(poly, -1, 1, value))

    def test_other_right_and_wrong_ones(self):
        poly = (X * X - 2) * (X * X - 2)
        one = Poly((1,))
        cases = (
            (Split(X * X - 2, one, ()), True),
            (Split(2 - X * X, one, [0]), True),
            (Split((X * X - 2) * 2, Poly(((1, 4),)), ((-1, 2), (1, 2))), True),
            (Split((X * X - 2) * 2, Poly(((1, 3),)), ()), False),
            (Split(X * X - 3, one, ()), False),
            (Split(one, poly, ()), False),
            (Split(X * X - 2, one, ((1, 2), (-1, 2))), False),
            (Split(X * X - 2, one, (0, 0)), False),
            (Split(X * X - 2, one, (0, (0, 3))), False),
            (Split(X * X - 2, one, (2,)), False),
            (Split(X * X - 2, one, (-2,)), False),
            (Split(X * X - 2, one, (3,)), False),
            (Split(X * X - 2, one, ([1, 2],)), False),
            (Split(X * X - 2, one, (True,)), False),
            (Split(X * X - 2, one, None), False),
            (Split(X * X - 2, 1, ()), False),
            (Split((-2, 0, 1), one, ()), False),
            (Split(None, None, ()), False),
        )
        for told, right in cases:
            self.assertIs(is_right_split(poly, -2, 2, told), right, vars(told))
            self.assertIs(is_split(poly, -2, 2, told), right, vars(told))

    def test_corners_below(self):
        # Above 0 throughout, but not so its corners on the whole stretch.
        poly = X * X + (1, 10)
        self.assertIs(is_split(poly, -1, 1, Split(Poly((1,)), poly, ())), False)
        self.assertIs(is_split(poly, -1, 1, Split(Poly((1,)), poly, (0,))), True)
        self.assertIs(is_split(poly, -1, 1, Split(Poly((1,)), poly, ((9, 10),))), False)
        self.assertIs(is_split(poly, 0, 1, Split(Poly((1,)), poly, ())), True)
        self.assertIs(is_split(Poly((-1,)), 0, 1, Split(Poly((1,)), Poly((-1,)), ())), False)


class Errors(unittest.TestCase):
    def test_interval(self):
        for low, high in ((1, 1), (2, 1), ((1, 2), (2, 4)), (0, -1)) + tuple((value, 1) for value in NO_RATIOS):
            fields = {"low": low, "high": high}
            expect(self, BadInterval, fields, nowhere_below, X, low, high)
            expect(self, BadInterval, fields, is_split, X, low, high, None)
            expect(self, BadInterval, fields, least_of, X, low, high, None)
        for value in NO_RATIOS:
            expect(self, BadInterval, {"low": 0, "high": value}, nowhere_below, X, 0, value)

    def test_bits(self):
        for bits in BAD_BITS:
            expect(self, BadNumber, {"what": "bits", "number": bits}, least_of, X, 0, 1, bits)
        self.assertEqual(least_of(X, 0, 1, 0).number, (0, 1))
        self.assertEqual(least_of(X, 0, 1, 60).number, (0, 1))


class Kept(unittest.TestCase):
    def test_keep_what_they_are_given(self):
        inner = [1, 2]
        row = [inner, 3]
        for made, names in ((Split(row, row, row), "root rest cuts"), (Below(row, row), "place number"),
                            (Floor(row, row, row), "number split place")):
            self.assertEqual(list(vars(made)), names.split())
            for value in vars(made).values():
                self.assertIs(type(value), tuple)
                self.assertIs(value[0], inner)
            self.assertTrue(made == made)
        self.assertFalse(Split(1, 2, ()) == Split(1, 2, ()))
        self.assertFalse(Below(1, 2) == Below(1, 2))
        self.assertFalse(Floor(1, 2, 3) == Floor(1, 2, 3))


if __name__ == "__main__":
    unittest.main()
