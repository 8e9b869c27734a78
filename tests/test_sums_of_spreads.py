"""Promises [41], [42], [44] and [45]: sums of spreads."""

import unittest
from fractions import Fraction

from bestlooks.errors import BadNumber, BadRow
from bestlooks.lists import best_for
from bestlooks.looks import Curve, Design, Hidden, Rows, can_tell
from bestlooks.polys import Poly
from bestlooks.signs import Capped, Split
from bestlooks.spreads import LeastSum, Untold, is_least_sum, least_sum
from tests.judging import ANYTHING, Numbers, dotted, fr, frs, frss, hold_judge, is_judged, is_judged_row, is_pair
from tests.judging import in_other_terms, is_pair_row, pair_of, rank_by_hand, spread_by_hand
from tests.papers import is_design_on, is_paper, moved_polys, powers_of, table_on, turned, turned_curve
from tests.test_curves import chebyshev
from tests.test_signs import BAD_BITS
from tests.test_telling import HANGING, rows_enough
from tests.values import NO_RATIOS, copied, expect

LITTLE = Fraction(1, 10 ** 12)


def together(rows, weights):
    """The table Y of [41]."""
    wide = range(len(rows[0]))
    return [[sum(w * row[i] * row[j] for row, w in zip(rows, weights)) for j in wide] for i in wide]


def is_right(looks, numbers, weights, bits, told):
    """What [42] says of a told value, by spreads and sums of the test's own."""
    asked, rates, seen = frss(numbers), frs(weights), rows_enough(looks)
    many = len(seen[0])
    hidden = [rank_by_hand(seen + [c]) > rank_by_hand(seen) for c in asked]
    if type(told) is Untold:
        if type(told.index) is not int or True not in hidden or told.index != hidden.index(True):
            return False
        if type(told.hidden) is not Hidden or not is_judged_row(told.hidden.z, many):
            return False
        z = frs(told.hidden.z)
        return dotted(z, asked[told.index]) == 1 and not any(dotted(row, z) for row in seen)
    if type(told) is not LeastSum or not is_design_on(looks, told.design) or not is_judged(told.total):
        return False
    table = table_on(looks, told.design)
    spreads = [spread_by_hand(table, c) for c in asked]
    if None in spreads or dotted(rates, spreads) != fr(told.total):
        return False
    if not isinstance(told.rows, tuple) or len(told.rows) != len(asked) or not is_judged(told.bound):
        return False
    if not all(is_judged_row(row, many) for row in told.rows) or fr(told.bound) <= 0:
        return False
    rows = frss(told.rows)
    reached = sum(w * dotted(row, c) for w, row, c in zip(rates, rows, asked))
    if fr(told.total) * fr(told.bound) > (1 + Fraction(1, 2 ** bits)) * reached ** 2:
        return False
    return is_paper(looks, together(rows, rates), fr(told.bound), told.paper)


class Sums(unittest.TestCase):
    def holds(self, looks, numbers, weights, bits, least=None):
        before = copied((numbers, weights))
        found = least_sum(looks, numbers, weights, bits)
        self.assertEqual(copied((numbers, weights)), before)
        self.assertTrue(is_right(looks, numbers, weights, bits, found), (numbers, weights, bits, vars(found)))
        self.assertIs(is_least_sum(looks, numbers, weights, bits, found), True)
        seen = rows_enough(looks)
        told = rank_by_hand(seen) == rank_by_hand(seen + frss(numbers))
        self.assertIs(type(found), LeastSum if told else Untold)
        if told:
            self.assertTrue(is_pair(found.total) and is_pair(found.bound))
            self.assertTrue(isinstance(found.rows, tuple))
            self.assertTrue(all(is_pair_row(row, len(seen[0])) for row in found.rows))
        if least is not None:
            self.assertTrue(least <= fr(found.total) <= (1 + Fraction(1, 2 ** bits)) * least)
        return found


class Lists(Sums):
    def test_numbers_at_right_angles(self):
        # The least sum of w / share is the square of the sum of all roots of w.
        looks = Rows([[1, 0, 0], [0, 1, 0], [0, 0, 1]])
        units = [[1, 0, 0], [0, 1, 0], [0, 0, 1]]
        for bits in range(0, 9):
            self.holds(looks, units, (1, 1, 1), bits, Fraction(9))
            self.holds(looks, units, (4, [9, 1], (1, 4)), bits, Fraction(121, 4))
            self.holds(looks, units[:2], ((8, 2), (9, 1)), bits, Fraction(25))
            self.holds(Rows([[2, 0, 0], [0, 0, 3], [1, 0, 0], [0, 5, 0]]), units, (1, 1, 1), bits,
                       (Fraction(1, 2) + Fraction(1, 3) + Fraction(1, 5)) ** 2)
        self.holds(looks, [[1, 0, 0], [1, 0, 0]], (2, 2), 8, Fraction(4))
        self.holds(looks, [[1, 0, 0], [-1, 0, 0], [0, (1, 3), 0]], (1, 3, 81), 8, Fraction(25))

    def test_one_number_with_a_known_sum(self):
        numbers = Numbers(220)
        for _ in range(25):
            many = numbers.between(1, 4)
            looks = Rows(numbers.rows(numbers.between(1, 12), many))
            c = numbers.row(many)
            best = best_for(looks, c)
            if type(best) is Hidden:
                continue
            for bits in (1, 4, 8):
                weight = numbers.one_of((1, (1, 7), (9, 3)))
                self.holds(looks, [c], [weight], bits, fr(weight) * fr(best.size) ** 2)
                self.holds(looks, [c, c], [weight, (1, 2)], bits, (fr(weight) + Fraction(1, 2)) * fr(best.size) ** 2)

    def test_fewer_places_than_numbers(self):
        # Told best at one place, though the looks tell more.
        looks = Rows([[1, 1, 0], [1, -1, 0], [0, 0, 1], [3, 0, 0], [1, 0, 2]])
        self.holds(looks, [[1, 1, 0]], (1,), 8)
        self.holds(looks, [[3, 0, 0]], (1,), 8, Fraction(1))
        self.holds(looks, [[3, 0, 0], [6, 0, 0]], (1, 1), 8, Fraction(5))
        self.holds(looks, [[0, 0, 0], [3, 0, 0]], (5, 1), 8, Fraction(1))

    def test_turned(self):
        looks, numbers = [[1, 0], [0, 1], [1, 1]], [[1, 0], [0, 1]]
        for turning in ([[2, 1], [1, 3]], [[10 ** 20, 1], [0, (1, 10 ** 20)]], [[0, -1], [1, 0]]):
            self.holds(Rows(turned(looks[:2], turning)), turned(numbers, turning), (1, 1), 8, Fraction(4))

    def test_untold(self):
        looks = Rows([[1, 1, 0], [2, 2, 0], [0, 0, 0]])
        for numbers, index in (([[1, 0, 0]], 0), ([[1, 1, 0], [0, 1, 0]], 1), ([[5, 5, 0], [0, 0, 0], [0, 0, 1], [1, 0, 0]], 2),
                               ([[0, 0, 1], [1, 1, 0]], 0), ([[0, 0, 1], [0, 0, 1]], 0)):
            for bits in (0, 8):
                found = self.holds(looks, numbers, [1] * len(numbers), bits)
                self.assertEqual(found.index, index)
        self.holds(looks, [[1, 1, 0], [3, 3, 0]], (1, 2), 8, Fraction(1, 4) + 2 * Fraction(9, 4))

    def test_zeros_alone(self):
        for looks in (Rows([[0, 0]]), Rows([[1, 2], [3, 4]]), HANGING, Curve(-1, 1, powers_of((0, 1)))):
            zeros = [0] * len(rows_enough(looks)[0])
            for numbers in ([zeros], [zeros, zeros]):
                found = self.holds(looks, numbers, [(1, 3)] * len(numbers), 8)
                self.assertEqual(found.total, (0, 1))

    def test_many(self):
        numbers = Numbers(221)
        kinds = {LeastSum: 0, Untold: 0}
        for _ in range(60):
            many = numbers.between(1, 4)
            looks = Rows(numbers.rows(numbers.between(1, 12), many))
            asked = numbers.rows(numbers.between(1, 4), many)
            weights = [(numbers.between(1, 9), numbers.between(1, 4)) for _ in asked]
            kinds[type(self.holds(looks, asked, weights, numbers.between(1, 8)))] += 1
        self.assertTrue(min(kinds.values()) > 5, kinds)


class Curves(Sums):
    def test_one_number_with_a_known_sum(self):
        for degree in range(1, 4):
            curve = Curve(-1, 1, powers_of(range(degree + 1)))
            for place in (Fraction(2), Fraction(-3, 2), Fraction(1), Fraction(1, 3)):
                least = chebyshev(degree, place) ** 2 if abs(place) >= 1 else Fraction(1)
                for bits in range(1, 9):
                    self.holds(curve, [[pair_of(place ** k) for k in range(degree + 1)]], (1,), bits, least)
            self.holds(curve, [[0] * degree + [1]], ((1, 3),), 8, Fraction(4 ** (degree - 1), 3))

    def test_two_numbers(self):
        # The line: both numbers are told best by halves at the ends.
        self.holds(Curve(-1, 1, powers_of((0, 1))), [[1, 0], [0, 1]], (1, 1), 8, Fraction(2))
        # From -1/2 to 1/2 the second one's spread is 4: with nothing else to win, 1 + 4.
        self.holds(Curve((-1, 2), (1, 2), powers_of((0, 1))), [[1, 0], [0, 1]], (1, 1), 8, Fraction(5))
        for turning in ([[2, 1], [1, 3]], [[10 ** 9, 1], [0, (1, 10 ** 9)]]):
            for low, high in ((0, 1), (-20, 20)):
                curve = turned_curve(low, high, moved_polys(powers_of((0, 1)), low, high), turning)
                self.holds(curve, turned([[1, 0], [0, 1]], turning), (1, 1), 8, Fraction(2))

    def test_best_places_that_are_no_ratios(self):
        # x and x * x * x: the peak of 3 * x - 4 * x * x * x is at 1/2 and 1; those of 9 * x - 8 * x ** 3 are none.
        for c in ([[1, 0]], [[0, 1]], [[2, 5]], [[1, 0], [0, 1]], [[1, 1], [1, -1], [0, 3]]):
            self.holds(Curve(0, 1, powers_of((1, 3))), c, [1] * len(c), 8)
        self.holds(Curve(0, 1, powers_of((1, 3))), [[0, 1]], (1,), 8, Fraction(16))

    def test_polys_that_hang_on_one_another(self):
        self.assertIs(type(self.holds(HANGING, [[1, 0, 2, 0], [0, 1, 1, 0]], (1, 2), 8)), LeastSum)
        self.assertEqual(self.holds(HANGING, [[1, 0, 2, 0], [0, 0, 0, 1]], (1, 2), 8).index, 1)
        self.holds(Curve(0, 1, (Poly((3,)), Poly((6,)))), [[1, 2]], (1,), 8, Fraction(1, 9))

    def test_many(self):
        numbers = Numbers(222)
        for _ in range(25):
            low = numbers.between(-20, 19)
            polys = [Poly(numbers.row(numbers.between(1, 5))) for _ in range(numbers.between(1, 4))]
            asked = numbers.rows(numbers.between(1, 4), len(polys))
            weights = [(numbers.between(1, 9), numbers.between(1, 4)) for _ in asked]
            self.holds(Curve(low, numbers.between(low + 1, 20), polys), asked, weights, numbers.between(1, 8))


class Sizes(Sums):
    def test_long_numbers(self):
        numbers = Numbers(223)
        bottom = numbers.long()[1]

        def within(most):
            return (numbers.long()[0] % (2 * most * bottom) - most * bottom, bottom)

        asked = [[numbers.long() for _ in range(4)] for _ in range(4)]
        weights = [(abs(top), low) for top, low in [numbers.long() for _ in range(4)]]
        looks = Rows([[within(20) for _ in range(4)] for _ in range(12)])
        self.holds(looks, asked, weights, 8)
        self.holds(looks, asked[:1], weights[:1], 8)
        polys = [Poly([pair_of(fr(within(4)) / 20 ** k) for k in range(5)]) for _ in range(4)]
        curve = Curve((-10 ** 39 - 1, 10 ** 38), (10 ** 39 + 3, 10 ** 38), polys)
        self.holds(curve, asked, weights, 8)
        self.holds(curve, asked[:1], weights[:1], 8)

    def test_beyond(self):
        self.holds(Rows([[1, 0], [0, 1], [2, 3]]), [[1, 2], [5, 7]], (1, 2), 20)
        self.holds(Rows([[1, 0]]), [[1, 0]] * 6, [1] * 6, 8, Fraction(6))
        self.holds(Rows([[10 ** 6, 1], [1, (1, 10 ** 6)]]), [[1, 0], [0, 1]], (1, 10 ** 12), 8)


class IsLeastSum(unittest.TestCase):
    CASES = ((Rows([[1, 0], [0, 1], [1, 1]]), [[1, 2]], (1,), 3), (Rows([[1, 0], [0, 1]]), [[1, 0], [0, 3]], (1, (1, 2)), 2),
             (Rows([[1, 1]]), [[1, 1], [1, 0]], (1, 1), 2), (Rows([[0, 0]]), [[0, 0]], (1,), 2),
             (Curve(-1, 1, powers_of((0, 1))), [[1, 2]], ((2, 3),), 2), (Curve(0, 1, powers_of((0,))), [[0], [2]], (1, 1), 1))

    def test_changed_in_one_thing(self):
        for looks, numbers, weights, bits in self.CASES:
            told = least_sum(looks, numbers, weights, bits)
            hold_judge(self, is_least_sum, (looks, numbers, weights, bits), told,
                       lambda value: is_right(looks, numbers, weights, bits, value),
                       (Untold(0, None), LeastSum(None, None, None, None, None)))

    def judged(self, looks, numbers, weights, bits, told, right):
        self.assertIs(is_right(looks, numbers, weights, bits, told), right, vars(told))
        self.assertIs(is_least_sum(looks, numbers, weights, bits, told), right, vars(told))

    def test_just_at_the_gap(self):
        # One number that is told at one place: total 1, rows (y,), bound y * y: the gap is met by design shares alone.
        looks = Rows([[1], [0]])
        for bits in (0, 1, 8, 30):
            gap = Fraction(1, 2 ** bits)
            part = 1 / (1 + gap)
            for little, right in ((Fraction(0), True), (LITTLE ** 2, True), (-LITTLE ** 2, False)):
                one = part + little
                if one >= 1:
                    continue
                design = Design((0, 1), (pair_of(one), pair_of(1 - one)))
                told = LeastSum(design, pair_of(1 / one), ((1,),), 1, Capped(None))
                self.judged(looks, [[1]], (1,), bits, told, right)
        # A bound a little greater than need be.
        told = LeastSum(Design((0,), (1,)), 1, ((1,),), (257, 256), Capped(None))
        self.judged(looks, [[1]], (1,), 8, told, True)
        told = LeastSum(Design((0,), (1,)), 1, ((1,),), pair_of(Fraction(257, 256) + LITTLE), Capped(None))
        self.judged(looks, [[1]], (1,), 8, told, False)

    def test_wrong_ones(self):
        looks, numbers, weights = Rows([[1, 0], [0, 1]]), [[1, 0], [0, 1]], (1, 4)
        design = Design((0, 1), ((1, 3), (2, 3)))
        rows, paper = ((3, 0), (0, (3, 2))), Capped(None)
        self.judged(looks, numbers, weights, 8, LeastSum(design, 9, rows, 9, paper), True)
        self.judged(looks, numbers, weights, 60, LeastSum(design, (18, 2), [list(row) for row in rows], (9, 1), paper), False)
        self.judged(looks, numbers, weights, 60, LeastSum(design, (18, 2), list(rows), [9, 1], paper), True)
        # Rows times the same, a bound times its square; times less than nothing, too.
        for factor in (Fraction(2), Fraction(-1), Fraction(1, 7)):
            made = tuple(tuple(pair_of(fr(item) * factor) for item in row) for row in rows)
            self.judged(looks, numbers, weights, 60, LeastSum(design, 9, made, pair_of(9 * factor ** 2), paper), True)
        for told in (LeastSum(design, 9, rows, pair_of(9 - LITTLE), paper), LeastSum(design, 9, ((-3, 0), rows[1]), 9, paper),
                     LeastSum(design, pair_of(9 + LITTLE), rows, 9, paper), LeastSum(design, 9, rows[:1], 9, paper),
                     LeastSum(design, 9, rows + rows[:1], 9, paper), LeastSum(design, 9, ((3, 0, 0), rows[1]), 9, paper),
                     LeastSum(Design((0, 1), ((1, 2), (1, 2))), 10, rows, 9, paper), LeastSum(design, 9, rows, 9, None),
                     LeastSum(Design((0,), (1,)), 9, rows, 9, paper), LeastSum(design, 9, rows, 0, paper),
                     LeastSum(Design((0, 2), ((1, 3), (2, 3))), 9, rows, 9, paper), LeastSum(None, 9, rows, 9, paper),
                     LeastSum(design, 9, ((0, 0), (0, 0)), 0, paper), LeastSum(design, 9, rows, -9, paper),
                     LeastSum(design, 9, rows, 9, Capped(Split(Poly((1,)), Poly((1,)), ()))), Untold(0, Hidden((1, 0)))):
            self.judged(looks, numbers, weights, 8, told, False)

    def test_zeros(self):
        looks = Rows([[1, 2]])
        for bound, right in ((1, True), ((1, 10 ** 9), True), (0, False), (-1, False)):
            told = LeastSum(Design((0,), (1,)), 0, ((0, 0),), bound, Capped(None))
            self.judged(looks, [[0, 0]], (1,), 8, told, right)
        self.judged(looks, [[0, 0]], (1,), 8, LeastSum(Design((0,), (1,)), 0, ((5, -1),), 9, Capped(None)), True)
        self.judged(looks, [[0, 0]], (1,), 8, LeastSum(Design((0,), (1,)), 1, ((0, 0),), 1, Capped(None)), False)

    def test_untold_ones(self):
        looks, numbers = Rows([[1, 1]]), [[1, 1], [1, 0], [0, 1]]
        right, second = can_tell(looks, (1, 0)), can_tell(looks, (0, 1))
        self.judged(looks, numbers, (1, 1, 1), 8, Untold(1, right), True)
        self.judged(looks, numbers, (1, 1, 1), 8, Untold(1, Hidden(in_other_terms(right.z))), True)
        for told in (Untold(2, second), Untold(0, right), Untold(2, right), Untold(1, second), Untold(1, None),
                     Untold((1, 1), right), Untold(True, right), Untold(-2, right), Untold(3, right), Untold(1, right.z),
                     Untold(None, right), Untold(1, Hidden((2, -2))), Untold(1, Hidden((1, 0)))):
            self.judged(looks, numbers, (1, 1, 1), 8, told, False)

    def test_of_other_kinds(self):
        for value in ANYTHING:
            self.assertIs(is_least_sum(Rows([[1]]), [[1]], (1,), 3, value), False)


class Errors(unittest.TestCase):
    LOOKS = (Rows([[1, 0], [0, 1]]), Curve(-1, 1, powers_of((0, 1))))

    def test_in_their_order(self):
        calls = (least_sum, lambda looks, numbers, weights, bits: is_least_sum(looks, numbers, weights, bits, None))
        for looks in self.LOOKS:
            for call in calls:
                for numbers in ((), [], [[]], [[1]], [[1, 2, 3]], [[1, 2], [1]], [1, 2], None, 5, "12", [[1, None]], {0: [1, 2]},
                                [[1, 2], None], Rows([[1, 2]]), [{0: 1, 1: 2}], [[1, 2], [1, 2, 3]]):
                    expect(self, BadRow, {"row": numbers}, call, looks, numbers, None, None)
                for value in NO_RATIOS:
                    numbers = [[1, 2], [value, 1]]
                    expect(self, BadRow, {"row": numbers}, call, looks, numbers, (1, 1), 3)
                for weights in ((), (1,), (1, 1, 1), (0, 1), (1, -1), (1, (-1, 2)), None, 3, "11", {0: 1, 1: 1}, ((1, 0), 1)):
                    expect(self, BadRow, {"row": weights}, call, looks, [[1, 2], [3, 4]], weights, None)
                for value in NO_RATIOS:
                    weights = [1, value]
                    expect(self, BadRow, {"row": weights}, call, looks, [[1, 2], [3, 4]], weights, 3)
                for bits in BAD_BITS:
                    expect(self, BadNumber, {"what": "bits", "number": bits}, call, looks, ((1, 2),), [1], bits)
        # Ahead of what is untold, too.
        expect(self, BadNumber, {"what": "bits", "number": 61}, least_sum, Rows([[0]]), [[1]], [1], 61)


class Kept(unittest.TestCase):
    def test_keep_what_they_are_given(self):
        inner = [1, 2]
        row = [inner, 3]
        for made, names in ((LeastSum(row, row, row, row, row), ["design", "total", "rows", "bound", "paper"]),
                            (Untold(row, row), ["index", "hidden"])):
            self.assertEqual(list(vars(made)), names)
            for value in vars(made).values():
                self.assertIs(type(value), tuple)
                self.assertIs(value[0], inner)
            self.assertTrue(made == made)


if __name__ == "__main__":
    unittest.main()
