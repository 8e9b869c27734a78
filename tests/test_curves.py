"""Promises [29] to [33]: one number, told by a curve."""

import unittest
from fractions import Fraction

from bestlooks.curves import Near, best_on, is_best_on
from bestlooks.errors import BadNumber, BadRow
from bestlooks.looks import Curve, Design, Hidden
from bestlooks.polys import Poly
from bestlooks.signs import Split, nowhere_below
from tests.judging import ANYTHING, Numbers, dotted, fr, frs, in_other_terms, is_judged_row, is_pair_row, pair_of
from tests.judging import rank_by_hand, spread_by_hand, table_by_hand, variants
from tests.test_looks import row_by_hand
from tests.test_signs import BAD_BITS, X, is_right_split
from tests.test_telling import HANGING, rows_enough
from tests.values import NO_RATIOS, expect

ONE = Poly((1,))


def powers(degree):
    return [Poly([0] * k + [1]) for k in range(degree + 1)]


def chebyshev(degree, place):
    one, other = Fraction(1), Fraction(place)
    for _ in range(degree):
        one, other = other, 2 * place * other - one
    return one


def line_by_hand(curve, z, sign):
    """The Poly 1 + sign * z . p, added up number by number."""
    found = [Fraction(1)]
    for number, poly in zip(frs(z), curve.polys):
        found = found + [Fraction(0)] * (len(poly.numbers) - len(found))
        for k, item in enumerate(frs(poly.numbers)):
            found[k] += sign * number * item
    return Poly([pair_of(item) for item in found])


def spread_on(curve, design, c):
    rows = [row_by_hand(curve, place) for place in design.places]
    return spread_by_hand(table_by_hand(rows, frs(design.shares)), frs(c))


def is_right(curve, c, bits, told):
    """What [30] says of a told value, by a table and Splits of the test's own."""
    if type(told) is Hidden:
        if not is_judged_row(told.z, len(c)):
            return False
        return all(dotted(row, frs(told.z)) == 0 for row in rows_enough(curve)) and dotted(frs(told.z), frs(c)) == 1
    if type(told) is not Near or type(told.design) is not Design or not is_judged_row(told.z, len(c)):
        return False
    if any(not fr(curve.low) <= fr(place) <= fr(curve.high) for place in told.design.places):
        return False
    if not isinstance(told.splits, tuple) or len(told.splits) != 2:
        return False
    for sign, split in zip((-1, 1), told.splits):
        if not is_right_split(line_by_hand(curve, told.z, sign), curve.low, curve.high, split):
            return False
    spread = spread_on(curve, told.design, c)
    if spread is None:
        return False
    return (1 - Fraction(1, 2 ** bits)) * spread <= dotted(frs(told.z), frs(c)) ** 2


class BestOn(unittest.TestCase):
    def holds(self, curve, c, bits, least=None):
        found = best_on(curve, c, bits)
        self.assertTrue(is_right(curve, c, bits, found), (c, bits, vars(found)))
        self.assertIs(is_best_on(curve, c, bits, found), True)
        told = rank_by_hand(rows_enough(curve)) == rank_by_hand(rows_enough(curve) + [frs(c)])
        self.assertIs(type(found), Near if told else Hidden)
        self.assertTrue(is_pair_row(found.z, len(c)))
        if least is not None:
            gap = Fraction(1, 2 ** bits)
            spread = spread_on(curve, found.design, c)
            self.assertTrue(spread >= least)
            self.assertTrue((1 - gap) * spread <= dotted(frs(found.z), frs(c)) ** 2 <= least)
        return found

    def test_beyond_the_stretch(self):
        for degree in range(1, 5):
            for place in (Fraction(2), Fraction(-3, 2), Fraction(1), Fraction(-1), Fraction(101, 100), Fraction(20)):
                c = [pair_of(place ** k) for k in range(degree + 1)]
                for bits in (1, 4, 12):
                    self.holds(Curve(-1, 1, powers(degree)), c, bits, chebyshev(degree, place) ** 2)

    def test_last_number_and_slope(self):
        for degree in range(1, 5):
            curve = Curve(-1, 1, powers(degree))
            for bits in range(1, 13):
                self.holds(curve, [0] * degree + [1], bits, Fraction(4 ** (degree - 1)))
                self.holds(curve, list(range(degree + 1)), bits, Fraction(degree ** 4))

    def test_moved_and_scaled_stretches(self):
        for degree in range(1, 5):
            for low, high in ((Fraction(0), Fraction(1)), (Fraction(-20), Fraction(20)), (Fraction(-7, 3), Fraction(10 ** 9 + 1, 10 ** 9))):
                curve = Curve(pair_of(low), pair_of(high), powers(degree))
                beyond = low + (high - low) * Fraction(3, 2)
                c = [pair_of(beyond ** k) for k in range(degree + 1)]
                self.holds(curve, c, 12, chebyshev(degree, Fraction(2)) ** 2)
                least = Fraction(4 ** (degree - 1)) * (2 / (high - low)) ** (2 * degree)
                self.holds(curve, [0] * degree + [1], 12, least)

    def test_turned_polys(self):
        # Sums of the powers, and the number that asks for the same.
        polys = (Poly((1, 1)), Poly((1, -1, 2)), Poly((0, 3, 0, (1, 7))), Poly((5, 0, 1)))
        for place in (Fraction(2), Fraction(-5, 4)):
            c = [poly.at(pair_of(place)) for poly in polys]
            self.holds(Curve(-1, 1, polys), c, 12, chebyshev(3, place) ** 2)
        scaled = [poly * (10 ** 6, 7) for poly in powers(3)]
        self.holds(Curve(-1, 1, scaled), (0, 0, 0, (10 ** 6, 7)), 12, Fraction(16))

    def test_a_number_times_itself(self):
        curve = Curve(-1, 1, powers(3))
        for factor in (1, -1, 10 ** 20, (1, 10 ** 20), (-7, 3)):
            c = [pair_of(fr(factor) * number) for number in (1, 2, 4, 8)]
            self.holds(curve, c, 10, (26 * fr(factor)) ** 2)

    def test_inside(self):
        # A value within the stretch has the size 1: told by a look there.
        for place in (Fraction(0), Fraction(1, 3), Fraction(10 ** 20 + 7, 3 * 10 ** 20 + 1), Fraction(-9, 10)):
            for degree in (2, 3, 4):
                c = [pair_of(place ** k) for k in range(degree + 1)]
                self.holds(Curve(-1, 1, powers(degree)), c, 12, Fraction(1))

    def test_best_alone_at_a_long_ratio(self):
        for place in (Fraction(1, 3), Fraction(10 ** 39 + 1, 3 * 10 ** 39 + 7)):
            peak = 1 - (X - pair_of(place)) * (X - pair_of(place))
            self.holds(Curve(0, 1, (peak,)), (1,), 12, Fraction(1))
            self.holds(Curve(0, 1, (peak,)), (-5,), 12, Fraction(25))
            high = 10 ** 6 - 9 * 10 ** 5 * (X - pair_of(place)) * (X - pair_of(place)) * 4
            self.holds(Curve(0, 1, (high,)), (10 ** 6,), 12)
            self.holds(Curve(0, 1, (peak, peak * peak)), (1, 1), 12, Fraction(1))

    def test_polys_that_hang_on_one_another(self):
        for c in ((1, 0, 1, 0), (1, 1, 3, 0), (0, 1, 1, 0), (2, 2, 6, 0), (0, 0, 0, 1), (0, 0, 0, 0), (1, 0, 0, 0)):
            self.holds(HANGING, c, 8)
        twice = Curve(-1, 1, (ONE, X, X, X * X))
        self.holds(twice, (1, 2, 2, 4), 12, Fraction(49))
        self.holds(twice, (1, 2, 3, 4), 12)
        self.holds(Curve(0, 1, (Poly(()),)), (1,), 5)
        self.holds(Curve(0, 1, (Poly((3,)), Poly((6,)))), (1, 2), 12, Fraction(1, 9))
        self.holds(Curve(0, 1, (Poly((3,)), Poly((6,)))), (1, 3), 12)

    def test_zeros(self):
        for curve in (HANGING, Curve(-1, 1, powers(4)), Curve(0, 1, (Poly(()),))):
            found = self.holds(curve, [0] * len(curve.polys), 12, Fraction(0))
            self.assertIs(type(found), Near)

    def test_many(self):
        numbers = Numbers(110)
        kinds = {Near: 0, Hidden: 0}
        for _ in range(60):
            k = numbers.between(1, 5)
            polys = [Poly(numbers.row(numbers.between(1, 5))) for _ in range(k)]
            low = numbers.between(-20, 19)
            curve = Curve(low, numbers.between(low + 1, 20), polys)
            kinds[type(self.holds(curve, numbers.row(k), numbers.between(1, 12)))] += 1
        self.assertTrue(min(kinds.values()) > 5, kinds)

    def test_sizes(self):
        numbers = Numbers(111)
        # Values within a million on the widest stretch.
        polys = [Poly([numbers.ratio(2 * 10 ** 5, 9)] + [pair_of(fr(numbers.ratio(5, 9)) / 20 ** (k - 2)) for k in range(1, 5)])
                 for _ in range(5)]
        self.holds(Curve(-20, 20, polys), [numbers.long(60) for _ in range(5)], 12)
        polys = [Poly([numbers.long() for _ in range(5)]) for _ in range(5)]
        low, high = (-10 ** 39 - 9, 10 ** 39 + 7), (10 ** 39 + 1, 10 ** 39 + 3)
        self.holds(Curve(low, high, polys), [numbers.long(60) for _ in range(5)], 12)
        self.holds(Curve(-1, 1, powers(4)), (1, 2, 4, 8, 16), 30, chebyshev(4, Fraction(2)) ** 2)


class IsBestOn(unittest.TestCase):
    CASES = ((Curve(-1, 1, powers(2)), (1, 2, 4), 3), (Curve((-1, 2), 1, (Poly((1, 1)), X * X)), (0, 1), 4),
             (HANGING, (0, 0, 0, 1), 2), (Curve(0, 1, (ONE,)), (0,), 1))

    def test_changed_in_one_thing(self):
        for curve, c, bits in self.CASES:
            told = best_on(curve, c, bits)
            self.assertIs(is_best_on(curve, c, bits, in_other_terms(told)), True)
            checked = 0
            for value in list(variants(told)) + list(ANYTHING):
                if type(value) in (Near, Hidden):
                    expected = is_right(curve, c, bits, value)
                    checked += not expected
                    self.assertIs(is_best_on(curve, c, bits, value), expected, vars(value))
                else:
                    self.assertIs(is_best_on(curve, c, bits, value), False)
            self.assertTrue(checked > 10)

    def near(self, curve, design, z):
        splits = [nowhere_below(line_by_hand(curve, z, sign), curve.low, curve.high) for sign in (-1, 1)]
        return Near(design, z, splits)

    def test_just_at_the_gap(self):
        # One Poly that is 1: z is 1 at most, and the spread of (1,) is 1.
        curve, design = Curve(0, 1, (ONE,)), Design((0,), (1,))
        z = (3, 4)
        told = self.near(curve, design, (z,))
        # 9/16 is 1 less 7/16: within a gap of 1/2, not within one of 1/4.
        self.assertIs(is_best_on(curve, (1,), 0, told), True)
        self.assertIs(is_best_on(curve, (1,), 1, told), True)
        self.assertIs(is_best_on(curve, (1,), 2, told), False)
        for bits in (2, 12, 60):
            # A row of three numbers whose squares are just at the gap, or by very little not so.
            gap = Fraction(1, 2 ** bits)
            wide = Curve(0, 1, (ONE, Poly((2 ** (bits // 2),))))
            one = pair_of(1 - gap / 2)
            self.assertIs(is_best_on(curve, (1,), bits, self.near(curve, design, (one,))), True)
            less = pair_of(1 - gap / 2 - gap * gap)
            self.assertIs(is_best_on(curve, (1,), bits, self.near(curve, design, (less,))), False)
            self.assertIs(is_best_on(curve, (1,), bits, self.near(curve, design, ((1, 1),))), True)
            self.assertIs(is_best_on(wide, (1, 2 ** (bits // 2)), bits, self.near(wide, design, (1, 0))), True)
        # Just at it: (1 - 1/4) * (4/3) is 1, for shares 3/4 and 1/4 on u = 1 and a place that adds nothing.
        part = Curve(0, 1, (1 - X,))
        design = Design((0, 1), ((3, 4), (1, 4)))
        self.assertIs(is_best_on(part, (1,), 2, self.near(part, design, (1,))), True)
        self.assertIs(is_best_on(part, (1,), 3, self.near(part, design, (1,))), False)
        little = Fraction(1, 10 ** 12)
        design = Design((0, 1), (pair_of(Fraction(3, 4) - little), pair_of(Fraction(1, 4) + little)))
        self.assertIs(is_best_on(part, (1,), 2, self.near(part, design, (1,))), False)

    def test_wrong_ones(self):
        curve, c = Curve(-1, 1, powers(1)), (0, 1)
        design = Design((-1, 1), ((1, 2), (1, 2)))
        splits = (Split(ONE, 1 - X, ()), Split(ONE, 1 + X, ()))
        for told, right in (
                (Near(design, (0, 1), splits), True), (Near(design, [0, 1], list(splits)), True),
                (Near(design, (0, (3, 3)), splits), True), (Near(design, (0, 1), splits[::-1]), False),
                (Near(design, (0, -1), splits[::-1]), True), (Near(design, (0, 1), splits + splits[:1]), False),
                (Near(design, (0, 1), splits[:1]), False), (Near(design, (0, 1), None), False),
                (Near(design, (0, 1), (1 - X, 1 + X)), False), (Near(design, (0, True), splits), False),
                (Near(design, (0, [1, 1]), splits), False), (Near((-1, 1), (0, 1), splits), False),
                (Near(Design((0,), (1,)), (0, 1), splits), False), (Near(Design((-2, 1), ((1, 2), (1, 2))), (0, 1), splits), False),
                (Near(Design((-2, 2), ((1, 2), (1, 2))), (0, 1), splits), False),
                (Near(Design((-1, 0, 1), ((1, 2), (1, 4), (1, 4))), (0, 1), splits), False),
                (Near(design, (0, 0), (Split(ONE, ONE, ()), Split(ONE, ONE, ()))), False), (Hidden((0, 1)), False)):
            self.assertIs(is_right(curve, c, 12, told), right, vars(told))
            self.assertIs(is_best_on(curve, c, 12, told), right, vars(told))

    def test_a_near_bars_a_hidden(self):
        for told in (Hidden((0, 1)), Hidden((1, 0)), Hidden((0, 0))):
            self.assertIs(is_best_on(Curve(-1, 1, powers(1)), (0, 1), 3, told), False)
        flat = Curve(0, 1, (ONE, ONE))
        self.assertIs(is_best_on(flat, (1, 0), 3, Hidden(((1, 2), (-1, 2)))), False)
        self.assertIs(is_best_on(flat, (1, 0), 3, Hidden((1, -1))), True)
        splits = (Split(ONE, Poly(()), ()), Split(ONE, Poly((2,)), ()))
        self.assertIs(is_best_on(flat, (1, 0), 3, Near(Design((0,), (1,)), (1, 0), splits)), False)
        self.assertIs(is_best_on(flat, (1, 1), 3, Near(Design((0,), (1,)), (1, 0), splits)), True)


class Errors(unittest.TestCase):
    CURVE = Curve(-1, 1, powers(1))

    def test_bad_number(self):
        for c in ((), (1,), (1, 2, 3), None, 5, "12", [1, None], {0: 1, 1: 2}, ((1, 0), 1)):
            expect(self, BadRow, {"row": c}, best_on, self.CURVE, c, None)
            expect(self, BadRow, {"row": c}, is_best_on, self.CURVE, c, None, None)
        for value in NO_RATIOS:
            c = [1, value]
            expect(self, BadRow, {"row": c}, best_on, self.CURVE, c, 3)
            expect(self, BadRow, {"row": c}, is_best_on, self.CURVE, c, 3, Hidden((1, 0)))

    def test_bits(self):
        for bits in BAD_BITS:
            for c in ((1, 0), [0, 0]):
                expect(self, BadNumber, {"what": "bits", "number": bits}, best_on, self.CURVE, c, bits)
                expect(self, BadNumber, {"what": "bits", "number": bits}, is_best_on, self.CURVE, c, bits, None)
            # Ahead of what is hidden, too.
            expect(self, BadNumber, {"what": "bits", "number": bits}, best_on, HANGING, (0, 0, 0, 1), bits)
        self.assertIs(is_best_on(self.CURVE, (1, 0), 0, best_on(self.CURVE, (1, 0), 0)), True)


class Kept(unittest.TestCase):
    def test_keep_what_they_are_given(self):
        inner = [1, 2]
        row = [inner, 3]
        made = Near(row, row, row)
        self.assertEqual(list(vars(made)), ["design", "z", "splits"])
        for value in vars(made).values():
            self.assertIs(type(value), tuple)
            self.assertIs(value[0], inner)
        self.assertTrue(made == made)
        self.assertFalse(Near(None, (), ()) == Near(None, (), ()))


if __name__ == "__main__":
    unittest.main()
