"""[5]: polynomials."""

import unittest
from fractions import Fraction
from unittest import mock

from bestlooks.errors import BadNumber, BadRow
from bestlooks.polys import Poly, common, divided
from tests.values import NO_RATIOS, RATIOS, copied, expect

NONE = Poly(())
LONG = (10 ** 40 - 1, 10 ** 39 + 7)

# Rows of numbers, with zeros behind and without, of the degrees -1 to 12.
ROWS = (
    (), (0,), [0, (0, 3), [0, 2]],
    (1,), (-3,), ((1, 2),), [[4, 6], 0],
    (0, 1), (1, 1), (-1, 1), [[1, 2], [-1, 3]], (0, (5, 4), 0, 0),
    (1, 2, 1), (-1, 0, 1), (6, -5, 1), ((1, 3), 0, (-2, 7)), ([3, 9], (2, 4), [10, 4]),
    (0, 0, 0, 1), (1, 0, 0, 1), (-6, 11, -6, 1), (LONG, 0, (-1, 10 ** 40), 3),
    (1, 4, 6, 4, 1), (0, (1, 2), 0, (-1, 6), 0, (1, 120)),
    tuple(range(-6, 7)), tuple((k - 5, k + 1) for k in range(13)), (0,) * 12 + ((-2, 3),),
)

# Ratios that may stand beside a sign.
BESIDE = (0, 1, -2, (0, 4), (1, 2), (2, 4), (-6, 9), (12, 4), LONG)

PLACES = (0, 1, -1, 2, (1, 2), [1, 2], (-2, 6), [-7, 3], (0, 5), 100, LONG)

# What is no row of ratios.
NO_ROWS = (
    None, True, 0, 3, "", "12", b"12", 1.5, {}, {1: 2}, {1, 2}, range(3), iter((1, 2)), object(),
    (1, None), (None,), (True,), [False], (1, "2"), [1.0], ((1, 0),), [[1, -1]], ((1, 2, 3),), ((),), [[]],
    (((1, 2), 3),), (1, 2, (3, True)), [[1, [2]]],
)


def fractions(row):
    """The numbers of a row, without zeros behind, reckoned apart from the program."""
    out = [Fraction(*item) if isinstance(item, (tuple, list)) else Fraction(item) for item in row]
    while out and out[-1] == 0:
        out.pop()
    return out


def pairs(numbers):
    out = list(numbers)
    while out and out[-1] == 0:
        out.pop()
    return tuple((number.numerator, number.denominator) for number in out)


def value_at(numbers, place):
    return sum((number * place ** k for k, number in enumerate(numbers)), Fraction(0))


def summed(one, other):
    size = max(len(one), len(other))
    first, second = (list(row) + [Fraction(0)] * (size - len(row)) for row in (one, other))
    return [a + b for a, b in zip(first, second)]


def multiplied(one, other):
    out = [Fraction(0)] * (len(one) + len(other))
    for i, a in enumerate(one):
        for j, b in enumerate(other):
            out[i + j] += a * b
    return out


def negative(row):
    return [-number for number in row]


class Checks(unittest.TestCase):
    def check(self, poly, numbers, what=None):
        """A Poly with these numbers, told as tuples of two integers."""
        self.assertIs(poly.__class__, Poly, what)
        self.assertEqual(vars(poly), {"numbers": pairs(numbers)}, what)
        self.assertIs(poly.numbers.__class__, tuple)
        for pair in poly.numbers:
            self.assertEqual((pair.__class__, pair[0].__class__, pair[1].__class__), (tuple, int, int))


class Made(Checks):
    def test_numbers_are_told_up_to_the_degree(self):
        for row in ROWS:
            before = copied(row)
            self.check(Poly(row), fractions(row), row)
            self.assertEqual(row, before)

    def test_ordinary_ones(self):
        self.assertEqual(Poly((1, [2, 4], (-6, 3), 0, (0, 5))).numbers, ((1, 1), (1, 2), (-2, 1)))
        self.assertEqual(Poly([0, 0, 3]).numbers, ((0, 1), (0, 1), (3, 1)))
        self.assertEqual(Poly((1, 2)).numbers, ((1, 1), (2, 1)))
        self.assertEqual(Poly([]).numbers, ())
        self.assertEqual(Poly((0, (0, 2))).numbers, ())

    def test_each_ratio(self):
        for value, pair in RATIOS:
            self.assertEqual(Poly((value, 1)).numbers, (pair, (1, 1)))

    def test_lists_that_change_later_change_no_poly(self):
        row = [[1, 2], 3]
        poly = Poly(row)
        row[0][0] = 9
        row.append(4)
        self.assertEqual(poly.numbers, ((1, 2), (3, 1)))

    def test_what_is_no_row(self):
        for value in NO_ROWS:
            expect(self, BadRow, {"row": value}, Poly, value)

    def test_what_is_no_ratio_in_a_row(self):
        for value in NO_RATIOS:
            for row in ((value,), [1, value], (value, value, 1), (0, value, 0)):
                expect(self, BadRow, {"row": row}, Poly, row)

    def test_degree(self):
        for row in ROWS:
            self.assertEqual(Poly(row).degree(), len(fractions(row)) - 1, row)
        self.assertEqual([Poly(row).degree() for row in ((), (0,), (5,), (0, 1), (0,) * 12 + (1,))], [-1, -1, 0, 1, 12])


class Equal(unittest.TestCase):
    def test_two_polys(self):
        for row in ROWS:
            for other in ROWS:
                same = fractions(row) == fractions(other)
                self.assertIs(Poly(row) == Poly(other), same, (row, other))
                self.assertIs(Poly(row) != Poly(other), not same, (row, other))

    def test_the_same_numbers_in_other_terms(self):
        self.assertTrue(Poly(([2, 4], 3)) == Poly([(1, 2), (9, 3), 0]))
        self.assertFalse(Poly((1, 2)) == Poly((2, 1)))
        self.assertFalse(Poly((0, 1)) == Poly((1,)))

    def test_a_poly_equals_itself(self):
        for row in ROWS:
            poly = Poly(row)
            self.assertIs(poly == poly, True)

    def test_what_is_no_poly(self):
        class Alike:
            def __init__(self, numbers):
                self.numbers = numbers

        for row in ROWS:
            poly = Poly(row)
            rows = ((), [], row, poly.numbers, list(poly.numbers))
            for other in (None, 0, 1, True, "", *rows, Alike(poly.numbers), mock.ANY):
                self.assertIs(poly == other, False, (row, other))
                self.assertIs(poly != other, True, (row, other))
        self.assertFalse(Poly((3,)) == 3)
        self.assertFalse(3 == Poly((3,)))
        self.assertFalse((1, 2) == Poly(((1, 2),)))


class Signs(Checks):
    def test_two_polys(self):
        for row in ROWS:
            for beside in ROWS:
                one, other = Poly(row), Poly(beside)
                first, second = fractions(row), fractions(beside)
                self.check(one + other, summed(first, second), (row, beside))
                self.check(one - other, summed(first, negative(second)), (row, beside))
                self.check(one * other, multiplied(first, second), (row, beside))
                self.check(one, first)
                self.check(other, second)

    def test_a_ratio_on_either_side(self):
        for row in ROWS:
            for ratio in BESIDE:
                poly, first, second = Poly(row), fractions(row), fractions((ratio,))
                self.check(poly + ratio, summed(first, second), (row, ratio))
                self.check(ratio + poly, summed(first, second), (row, ratio))
                self.check(poly - ratio, summed(first, negative(second)), (row, ratio))
                self.check(ratio - poly, summed(second, negative(first)), (row, ratio))
                self.check(poly * ratio, multiplied(first, second), (row, ratio))
                self.check(ratio * poly, multiplied(first, second), (row, ratio))
                self.check(poly, first)

    def test_the_sign_ahead(self):
        for row in ROWS:
            poly = Poly(row)
            self.check(-poly, negative(fractions(row)), row)
            self.check(poly, fractions(row))

    def test_ordinary_ones(self):
        one, other = Poly((1, 2)), Poly(((1, 2), -2, 3))
        self.assertEqual((one + other).numbers, ((3, 2), (0, 1), (3, 1)))
        self.assertEqual((one - other).numbers, ((1, 2), (4, 1), (-3, 1)))
        self.assertEqual((one * other).numbers, ((1, 2), (-1, 1), (-1, 1), (6, 1)))
        self.assertEqual(((1, 2) - one).numbers, ((-1, 2), (-2, 1)))
        self.assertEqual((one - one).numbers, ())
        self.assertEqual((one - (1, 1)).numbers, ((0, 1), (2, 1)))
        self.assertEqual((one * 0).numbers, ())

    def test_degrees_may_grow(self):
        self.assertEqual((Poly((0,) * 12 + (2,)) * Poly((0,) * 12 + (3,))).numbers, ((0, 1),) * 24 + ((6, 1),))


class Values(Checks):
    def test_at(self):
        for row in ROWS:
            for place in PLACES:
                before = copied(place)
                found = Poly(row).at(place)
                value = value_at(fractions(row), (fractions((place,)) or [Fraction(0)])[0])
                self.assertEqual(found, (value.numerator, value.denominator), (row, place))
                self.assertIs(found.__class__, tuple)
                self.assertEqual(place, before)

    def test_at_ordinary_places(self):
        self.assertEqual(Poly((1, 0, (-1, 2))).at((2, 3)), (7, 9))
        self.assertEqual(Poly((0, 2)).at([1, 2]), (1, 1))
        self.assertEqual(NONE.at(5), (0, 1))
        self.assertEqual(Poly((3,)).at((1, 7)), (3, 1))

    def test_at_no_ratio(self):
        for row in ROWS:
            for value in NO_RATIOS:
                expect(self, BadNumber, {"what": "place", "number": value}, Poly(row).at, value)

    def test_slope(self):
        for row in ROWS:
            poly, numbers = Poly(row), fractions(row)
            self.check(poly.slope(), [k * number for k, number in enumerate(numbers)][1:], row)
            self.check(poly, numbers)
        self.assertEqual(Poly((5, 4, (1, 2), (2, 3))).slope().numbers, ((4, 1), (1, 1), (2, 1)))

    def test_moved(self):
        for row in ROWS:
            for start in PLACES:
                for step in PLACES:
                    before = copied((start, step))
                    line, power, expected = fractions((start, step)), [Fraction(1)], []
                    for number in fractions(row):
                        expected = summed(expected, [number * item for item in power])
                        power = multiplied(power, line)
                    self.check(Poly(row).moved(start, step), expected, (row, start, step))
                    self.assertEqual((start, step), before)

    def test_moved_has_the_value_of_one_there(self):
        self.assertEqual(Poly((0, 0, 1)).moved(1, 2).numbers, ((1, 1), (4, 1), (4, 1)))
        self.assertEqual(Poly((1, 1)).moved((1, 2), [-1, 3]).numbers, ((3, 2), (-1, 3)))
        self.assertEqual(Poly((1, 2, 3)).moved(2, 0).numbers, ((17, 1),))
        self.assertEqual(Poly((1, 2, 3)).moved(0, 1).numbers, ((1, 1), (2, 1), (3, 1)))

    def test_moved_by_no_ratios(self):
        for row in ROWS[::5]:
            for value in NO_RATIOS:
                expect(self, BadNumber, {"what": "start", "number": value}, Poly(row).moved, value, 1)
                expect(self, BadNumber, {"what": "step", "number": value}, Poly(row).moved, (1, 2), value)
                for other in ([1, 0], None):
                    expect(self, BadNumber, {"what": "start", "number": value}, Poly(row).moved, value, other)


class Divided(Checks):
    def test_quotients_and_rests(self):
        for row in ROWS:
            for beside in ROWS:
                one, other = Poly(row), Poly(beside)
                if other.degree() >= 0:
                    found = divided(one, other)
                    self.assertIs(found.__class__, tuple)
                    quotient, rest = found
                    self.check(quotient, fractions(quotient.numbers))
                    self.check(rest, fractions(rest.numbers))
                    self.assertLess(rest.degree(), other.degree())
                    whole = summed(multiplied(fractions(quotient.numbers), fractions(beside)), fractions(rest.numbers))
                    self.check(one, whole, (row, beside))
                    self.check(other, fractions(beside))

    def test_ordinary_ones(self):
        self.assertEqual(
            [poly.numbers for poly in divided(Poly((1, 0, 0, 1)), Poly((1, 2)))],
            [((1, 8), (-1, 4), (1, 2)), ((7, 8),)])
        self.assertEqual(
            [poly.numbers for poly in divided(Poly((-1, 0, 1)), Poly((1, 1)))], [((-1, 1), (1, 1)), ()])
        self.assertEqual([poly.numbers for poly in divided(Poly((1, 2)), Poly((0, 0, 3)))], [(), ((1, 1), (2, 1))])
        self.assertEqual([poly.numbers for poly in divided(Poly((1, 2)), Poly(((1, 2),)))], [((2, 1), (4, 1)), ()])
        self.assertEqual([poly.numbers for poly in divided(NONE, Poly((1, 1)))], [(), ()])

    def test_nought_within_a_quotient(self):
        self.assertEqual(
            [poly.numbers for poly in divided(Poly((5, 0, 0, 0, 1)), Poly((0, 0, 1)))],
            [((0, 1), (0, 1), (1, 1)), ((5, 1),)])

    def test_by_the_degree_minus_one(self):
        for row in ROWS:
            for other in (NONE, Poly((0, [0, 2]))):
                with self.assertRaises(BadNumber) as caught:
                    divided(Poly(row), other)
                self.assertEqual(vars(caught.exception), {"what": "divisor", "number": 0})
                self.assertIs(caught.exception.number.__class__, int)


class Common(Checks):
    def test_known_ones(self):
        shared = [Poly(row) for row in ((1,), (1, 2), ((-2, 3), 0, 1), (1, 1, 1, 1), (5, 0, (1, 2), 0, 7))]
        # No two of these have a divisor in common, nor one with those above.
        one, other = Poly((-4, 1)) * Poly((11, 0, 3)), Poly((9, 2)) * Poly(((1, 7), 1, 1))
        for poly in shared:
            expected = divided(poly, Poly(poly.numbers[-1:]))[0]
            self.assertEqual(expected.numbers[-1], (1, 1))
            self.check(common(poly * one, poly * other), fractions(expected.numbers))
            self.check(common(poly * other, poly * one * (-3, 5)), fractions(expected.numbers))

    def test_what_divides_both(self):
        for row in ROWS:
            for beside in ROWS:
                one, other = Poly(row), Poly(beside)
                found = common(one, other)
                self.assertEqual(found.numbers, common(other, one).numbers)
                if one.degree() < 0 and other.degree() < 0:
                    self.check(found, [])
                else:
                    self.assertEqual(found.numbers[-1], (1, 1))
                    self.assertEqual([divided(poly, found)[1].degree() for poly in (one, other)], [-1, -1])
                self.check(one, fractions(row))
                self.check(other, fractions(beside))

    def test_no_greater_one(self):
        for row in ROWS:
            for beside in ROWS:
                one, other = Poly(row), Poly(beside)
                found = common(one, other)
                if found.degree() >= 0:
                    # Once it is divided out, nothing is left in common.
                    self.assertEqual(common(divided(one, found)[0], divided(other, found)[0]).numbers, ((1, 1),))

    def test_ordinary_ones(self):
        self.assertEqual(common(Poly((-1, 0, 1)), Poly((1, 2, 1))).numbers, ((1, 1), (1, 1)))
        self.assertEqual(common(Poly((2, 4)), Poly((3, 6))).numbers, ((1, 2), (1, 1)))
        self.assertEqual(common(Poly((1, 1)), Poly((2, 1))).numbers, ((1, 1),))
        self.assertEqual(common(Poly((3,)), Poly((0, 5))).numbers, ((1, 1),))

    def test_the_degree_minus_one(self):
        self.assertEqual(common(NONE, NONE).numbers, ())
        self.assertEqual(common(Poly((2, 4)), NONE).numbers, ((1, 2), (1, 1)))
        self.assertEqual(common(NONE, Poly((2, 4))).numbers, ((1, 2), (1, 1)))
        self.assertEqual(common(NONE, Poly((-7,))).numbers, ((1, 1),))
        self.assertEqual(common(Poly((-7,)), NONE).numbers, ((1, 1),))

    def test_degree_twelve(self):
        shared = Poly(((1, 3), -2, 0, 5, (7, 2), 1, -1))
        one, other = shared * Poly((1, 2, 3, 4, 5, 6, LONG)), shared * Poly((LONG, -1, 0, 2, 9, (1, 11), 3))
        self.assertEqual((one.degree(), other.degree()), (12, 12))
        self.check(common(one, other), negative(fractions(shared.numbers)))


if __name__ == "__main__":
    unittest.main()
