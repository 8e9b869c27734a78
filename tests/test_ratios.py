"""[4]: ratios."""

import operator
import unittest
from fractions import Fraction
from math import floor

from bestlooks.errors import BadNumber
from bestlooks.ratios import floor_of, is_ratio, lower, minus, plus, ratio_text, share, times, told
from tests.values import NO_RATIOS, RATIOS, copied, expect

OF_TWO = (plus, minus, times, share, lower)
OF_ONE = (floor_of, ratio_text)
SIGNS = ((plus, operator.add), (minus, operator.sub), (times, operator.mul), (share, operator.truediv))


def pair_of(fraction):
    return (fraction.numerator, fraction.denominator)


class IsRatio(unittest.TestCase):
    def test_ratios(self):
        for value, _ in RATIOS:
            self.assertIs(is_ratio(value), True, value)

    def test_other_values(self):
        for value in NO_RATIOS:
            self.assertIs(is_ratio(value), False, value)


class Told(unittest.TestCase):
    def check_pair(self, pair, expected):
        self.assertIs(pair.__class__, tuple)
        self.assertEqual(pair, expected)
        self.assertEqual([item.__class__ for item in pair], [int, int])

    def test_in_lowest_terms(self):
        for value, pair in RATIOS:
            before = copied(value)
            self.check_pair(told(value, "what"), pair)
            self.assertEqual(value, before)

    def test_what_was_told_stays(self):
        for _, pair in RATIOS:
            self.check_pair(told(pair, "what"), pair)

    def test_other_values_are_named_as_they_were_passed(self):
        for what in ("place", "", None, ["any"]):
            for value in NO_RATIOS:
                expect(self, BadNumber, {"what": what, "number": value}, told, value, what)

    def test_results_are_told_likewise(self):
        half = [2, 4]
        self.check_pair(plus(half, half), (1, 1))
        self.check_pair(minus(half, half), (0, 1))
        self.check_pair(times(half, 2), (1, 1))
        self.check_pair(share(half, -half[0]), (-1, 4))
        self.assertEqual(half, [2, 4])


class Sums(unittest.TestCase):
    def test_against_fractions(self):
        for one, (top, bottom) in RATIOS:
            for other, (high, low) in RATIOS:
                first, second = Fraction(top, bottom), Fraction(high, low)
                before = copied((one, other))
                for function, sign in SIGNS:
                    if function is not share or high != 0:
                        self.assertEqual(function(one, other), pair_of(sign(first, second)), (function, one, other))
                self.assertIs(lower(one, other), first < second)
                self.assertEqual((one, other), before)

    def test_ordinary_ones(self):
        self.assertEqual(plus((1, 2), [1, 3]), (5, 6))
        self.assertEqual(plus((1, 6), (1, 3)), (1, 2))
        self.assertEqual(minus(1, (1, 3)), (2, 3))
        self.assertEqual(minus((1, 3), 1), (-2, 3))
        self.assertEqual(times((2, 3), (3, 4)), (1, 2))
        self.assertEqual(share((1, 2), (3, 4)), (2, 3))
        self.assertEqual(share((1, 2), (-3, 4)), (-2, 3))
        self.assertEqual(share(-1, -2), (1, 2))
        self.assertEqual(share(0, -5), (0, 1))

    def test_lower(self):
        self.assertIs(lower((1, 3), (1, 2)), True)
        self.assertIs(lower((1, 2), (1, 3)), False)
        self.assertIs(lower([2, 4], (1, 2)), False)
        self.assertIs(lower((-1, 2), (-1, 3)), True)
        self.assertIs(lower(-1, 0), True)
        self.assertIs(lower(0, 0), False)
        self.assertIs(lower((10 ** 40, 10 ** 40 + 1), (10 ** 40 + 1, 10 ** 40 + 2)), True)

    def test_share_by_nought(self):
        for nought in (0, (0, 1), (0, 5), [0, 3]):
            for one in (0, 3, (1, 2), [-1, 2]):
                expect(self, BadNumber, {"what": "divisor", "number": nought}, share, one, nought)


class Errors(unittest.TestCase):
    def test_first_place(self):
        for function in OF_TWO:
            for value in NO_RATIOS:
                for other in (0, (1, 2), [3, 4]):
                    expect(self, BadNumber, {"what": "ratio", "number": value}, function, value, other)

    def test_second_place(self):
        for function in OF_TWO:
            for value in NO_RATIOS:
                for one in (0, (1, 2), [3, 4]):
                    expect(self, BadNumber, {"what": "ratio", "number": value}, function, one, value)

    def test_the_first_wrong_value_counts(self):
        for function in OF_TWO:
            for first in ([1, 0], None, True):
                for second in ([2, 0], "2", 2.5):
                    expect(self, BadNumber, {"what": "ratio", "number": first}, function, first, second)

    def test_no_ratio_goes_ahead_of_the_divisor(self):
        wrong = [1, -1]
        expect(self, BadNumber, {"what": "ratio", "number": wrong}, share, wrong, 0)

    def test_of_one(self):
        for function in OF_ONE:
            for value in NO_RATIOS:
                expect(self, BadNumber, {"what": "ratio", "number": value}, function, value)


class Floor(unittest.TestCase):
    def test_against_fractions(self):
        for value, (top, bottom) in RATIOS:
            before = copied(value)
            found = floor_of(value)
            self.assertEqual(found, floor(Fraction(top, bottom)), value)
            self.assertIs(found.__class__, int)
            self.assertEqual(value, before)

    def test_around_nought(self):
        tops = range(-7, 8)
        self.assertEqual(
            [floor_of((top, 3)) for top in tops], [-3, -2, -2, -2, -1, -1, -1, 0, 0, 0, 1, 1, 1, 2, 2])


class RatioText(unittest.TestCase):
    def test_against_fractions(self):
        for value, (top, bottom) in RATIOS:
            before = copied(value)
            self.assertEqual(ratio_text(value), str(Fraction(top, bottom)), value)
            self.assertEqual(value, before)

    def test_ordinary_ones(self):
        texts = ((0, "0"), ((0, 7), "0"), (5, "5"), (-5, "-5"), ((10, 5), "2"), ([-10, 5], "-2"), ((1, 2), "1/2"),
                 ((-1, 2), "-1/2"), ([6, 4], "3/2"), ((-100, 30), "-10/3"))
        for value, text in texts:
            self.assertEqual(ratio_text(value), text)

    def test_many_digits(self):
        for digits in (63, 64, 65, 127, 128, 129, 1000, 20000):
            nines = 10 ** digits - 1
            self.assertEqual(ratio_text(nines), "9" * digits)
            self.assertEqual(ratio_text(-(10 ** digits)), "-1" + "0" * digits)
            text = "1" + "0" * (digits - 1) + "7/1" + "0" * digits
            self.assertEqual(ratio_text((10 ** digits + 7, 10 ** digits)), text)


if __name__ == "__main__":
    unittest.main()
