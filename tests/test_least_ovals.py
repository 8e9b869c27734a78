"""Promises [48] to [50]: least ovals."""

import unittest
from fractions import Fraction

from bestlooks.errors import BadNumber, BadRow
from bestlooks.ovals import Least, Oval, holds, is_least_oval, least_oval, moved_oval
from tests.judging import ANYTHING, Numbers, fr, frs, frss, hold_judge, is_judged, is_pair, pair_of, pairs_of
from tests.judging import in_other_terms
from tests.test_ovals import BAD_PAIRS, LITTLE, drawn, height_by_hand, size_by_hand
from tests.test_signs import BAD_BITS
from tests.values import NO_RATIOS, copied, expect

SQUARE = [(1, 1), (-1, 1), (1, -1), (-1, -1)]
TRIANGLE = [(0, 0), (3, 0), (0, 3)]
# Six corners of a circle, moved so that they are ratios: (x, y) stands for x * (1, 0) + y * (1/2, root of 3/4).
SIX = [(1, 0), (0, 1), (-1, 1), (-1, 0), (0, -1), (1, -1)]
MATRICES = ((1, 0, 0, 1), (2, 1, 1, 1), (-3, 0, 0, (1, 2)), (0, 1, 1, 0), ((1, 7), 2, -1, 3))


def scatter_by_hand(points, shares, middle=None):
    """The determinant of the scatter of points, by hand: about their mean, or about a middle."""
    rows = [(frs(points[index]), fr(part)) for index, part in shares]
    if middle is None:
        a, b = (sum(part * row[k] for row, part in rows) for k in range(2))
    else:
        a, b = frs(middle)
    p = sum(part * (x - a) ** 2 for (x, y), part in rows)
    q = sum(part * (x - a) * (y - b) for (x, y), part in rows)
    r = sum(part * (y - b) ** 2 for (x, y), part in rows)
    return p * r - q * q


def is_right(points, bits, told, middle=None):
    """What [48] says of a told value, by sums of the test's own."""
    if type(told) is not Least or type(told.oval) is not Oval or not isinstance(told.shares, tuple):
        return False
    if any(height_by_hand(told.oval, point) > 1 for point in points):
        return False
    if middle is not None and frs(told.oval.middle) != frs(middle):
        return False
    if not all(isinstance(item, tuple) and len(item) == 2 for item in told.shares):
        return False
    indices = [index for index, _ in told.shares]
    if any(type(index) is not int or not 0 <= index < len(points) for index in indices):
        return False
    if any(one >= two for one, two in zip(indices, indices[1:])):
        return False
    parts = [part for _, part in told.shares]
    if not all(is_judged(part) and fr(part) > 0 for part in parts) or sum(frs(parts)) != 1:
        return False
    least = (1 - Fraction(1, 2 ** bits)) * size_by_hand(told.oval)
    return 4 * scatter_by_hand(points, told.shares, middle) >= least


class LeastOvals(unittest.TestCase):
    def told(self, points, bits, middle=None, size=None):
        before = copied((points, middle))
        found = least_oval(points, bits, middle)
        self.assertEqual(copied((points, middle)), before)
        self.assertTrue(is_right(points, bits, found, middle), (points, bits, middle, vars(found)))
        self.assertIs(is_least_oval(points, bits, found, middle), True)
        self.assertTrue(all(is_pair(part) for _, part in found.shares))
        if size is not None:
            self.assertTrue((1 - Fraction(1, 2 ** bits)) * size_by_hand(found.oval) <= size <= size_by_hand(found.oval))
        return found

    def moved(self, points, bits, middle, size):
        for matrix in MATRICES:
            a, b, c, d = frs(matrix)
            there = [pairs_of((a * fr(x) + b * fr(y) + 5, c * fr(x) + d * fr(y) - 2)) for x, y in points]
            about = None
            if middle is not None:
                about = pairs_of((a * fr(middle[0]) + b * fr(middle[1]) + 5, c * fr(middle[0]) + d * fr(middle[1]) - 2))
            self.told(there, bits, about, Fraction(size) * (a * d - b * c) ** 2)

    def test_known_corners(self):
        for bits in range(9):
            self.moved(SQUARE, bits, None, 4)
            # By its scatter about the mean (1, 1), with thirds: 2 * 2 - 1 * 1, times 4.
            self.moved(TRIANGLE, bits, None, 12)
            self.moved(SIX, bits, None, Fraction(4, 3))

    def test_points_within_and_told_twice(self):
        for points in (SQUARE + [(0, 0), (1, 0), (0, (-9, 10))], SQUARE + SQUARE, SQUARE + [(1, 1)] * 4,
                       [(0, 0)] + SQUARE[::-1], SQUARE + [((7, 5), 0), (0, (-7, 5))], SQUARE + [((7, 5), (1, 5))]):
            self.moved(points, 8, None, 4)
        self.moved(TRIANGLE * 4, 8, None, 12)
        self.moved(SIX + SIX, 8, None, Fraction(4, 3))
        self.assertTrue(size_by_hand(self.told(SQUARE + [((3, 2), 0)], 8).oval) > 4)

    def test_with_a_middle(self):
        for bits in (0, 1, 4, 8):
            self.moved(SQUARE, bits, (0, 0), 4)
            self.moved(SIX, bits, (0, 0), Fraction(4, 3))
            self.moved(TRIANGLE, bits, (1, 1), 12)
            # From a corner, the other two count alone: the oval of (3, 0) and (0, 3) about (0, 0).
            self.moved(TRIANGLE, bits, (0, 0), 81)
            self.moved([(1, 0), (0, 1)], bits, (0, 0), 1)
            self.moved([(1, 0), (0, 1), (-1, 0)], bits, (0, 0), 1)
            # Outside: shares by hand; corners (1, 1) and (1, -1) about (-3, 0) lie furthest.
            self.moved(SQUARE, bits, (-3, 0), 64)
        self.told(SQUARE, 8, (100, (1, 3)))
        self.told(SQUARE, 8, [0, (0, 2)], 4)
        self.told(TRIANGLE, 8, (-50, 70))
        self.told(TRIANGLE, 8, ((1, 2), (1, 2)))

    def test_drawn(self):
        numbers = Numbers(250)
        for _ in range(40):
            points = numbers.rows(numbers.between(3, 12), 2, 100)
            if len({tuple(frs(point)) for point in points}) < 3:
                continue
            self.told(points, numbers.between(0, 8))
            self.told(points, numbers.between(0, 8), numbers.row(2, 100))

    def test_no_oval_is_smaller(self):
        # Any oval that holds them all has at least the size that the shares show.
        numbers = Numbers(251)
        points = [(0, 0), (1, 2), (-1, 1), (2, -1)]
        found = self.told(points, 8)
        bound = 4 * scatter_by_hand(points, found.shares)
        for _ in range(60):
            oval = drawn(numbers)
            reach = max(height_by_hand(oval, point) for point in points)
            grown = Oval(oval.middle, pairs_of(item / reach for item in frs(oval.form)))
            self.assertTrue(all(holds(grown, point) for point in points))
            self.assertTrue(size_by_hand(grown) >= bound)

    def test_moved_points(self):
        # [49]: moved points have the moved oval, its size times the square of the determinant.
        for matrix in MATRICES:
            a, b, c, d = frs(matrix)
            points = [pairs_of((a * x + b * y, c * x + d * y)) for x, y in TRIANGLE]
            found = self.told(TRIANGLE, 8)
            moved = moved_oval(found.oval, matrix, (0, 0))
            self.assertTrue(is_right(points, 8, Least(moved, found.shares)))
            self.assertIs(is_least_oval(points, 8, Least(moved, found.shares)), True)

    def test_sizes(self):
        numbers = Numbers(252)
        for _ in range(3):
            points = [(pair_of(fr(numbers.long()) % 100), pair_of(-(fr(numbers.long()) % 100))) for _ in range(12)]
            for bits in (0, 8):
                self.told(points, bits)
                self.told(points, bits, points[3])
                self.told(points, bits, (100, 100))

    def test_nearly_on_one_line(self):
        for little in (Fraction(1, 10 ** 6), Fraction(1, 10 ** 39)):
            points = [(0, 0), (100, 100), (50, pair_of(50 + little)), (-100, -100)]
            self.told(points, 8)
            self.told(points, 8, (0, 0))
            self.told(points, 8, pairs_of((little, 0)))
            self.told([(1, 1), (2, 2), (3, 3)], 8, pairs_of((0, little)))

    def test_beyond(self):
        self.told([(0, 0), (1, 2), (3, 1), (2, 2), (5, 5)], 60)
        self.told([(k * k % 17 * 1000, k * k * k % 19 * 1000) for k in range(20)], 12)


class IsLeastOval(unittest.TestCase):
    CASES = ((SQUARE, 3, None), (TRIANGLE, 0, (0, 0)), (TRIANGLE, 1, (1, 2)), ([(0, 0), (1, 5), (2, 1), (0, 0)], 2, None))

    def test_changed_in_one_thing(self):
        for points, bits, middle in self.CASES:
            told = least_oval(points, bits, middle)
            hold_judge(self, lambda value: is_least_oval(points, bits, value, middle), (), told,
                       lambda value: is_right(points, bits, value, middle), (Least(None, None), Least(told.oval, None)))

    def judged(self, points, bits, told, right, middle=None):
        self.assertIs(is_right(points, bits, told, middle), right, vars(told))
        self.assertIs(is_least_oval(points, bits, told, middle), right, vars(told))
        self.assertIs(is_least_oval(points, bits, in_other_terms(told), middle=middle), right)

    def test_just_within(self):
        quarters = tuple((k, (1, 4)) for k in range(4))
        for bits in (0, 1, 8, 60):
            self.judged(SQUARE, bits, Least(Oval((0, 0), ((1, 2), 0, (1, 2))), quarters), True)
            self.judged(SQUARE, bits, Least(Oval((0, 0), ((1, 2), 0, pair_of(Fraction(1, 2) + LITTLE))), quarters), False)
        # The size 1 / (p * p) against 4: just at the gap 7/16 where p is 3/8.
        for bits, right in ((1, True), (2, False), (0, True)):
            self.judged(SQUARE, bits, Least(Oval((0, 0), ((3, 8), 0, (3, 8))), quarters), right)
        edge = Fraction(3, 8)
        for part, right in ((Fraction(0), True), (LITTLE, True), (-LITTLE, False)):
            # (1 - 1/4) * 1 / (1/2 * r) is 4 for r = 3/8.
            oval = Oval((0, 0), ((1, 2), 0, pair_of(edge + part)))
            self.judged(SQUARE, 2, Least(oval, quarters), right)
            self.judged(SQUARE, 2, Least(oval, quarters), right, (0, 0))

    def test_wrong_ones(self):
        oval = Oval((0, 0), ((1, 2), 0, (1, 2)))
        quarter = (1, 4)
        quarters = tuple((k, quarter) for k in range(4))
        half = ((0, (1, 2)), (3, (1, 2)))
        for shares, right in ((quarters, True), (list(quarters), True), (((0, (1, 2)), (1, (1, 2))), False), (half, False),
                              (quarters[::-1], False), (quarters[:3], False), ((), False), (None, False),
                              (quarters[:3] + ((4, quarter),), False), (((-1, quarter),) + quarters[1:], False),
                              (((0, (1, 8)), (0, (1, 8))) + quarters[1:], False), (((0, 0),) + quarters[1:], False),
                              (((0, (1, 2)), (1, 0), (2, quarter), (3, quarter)), False),
                              ((((0, 1), quarter),) + quarters[1:], False), (((False, quarter),) + quarters[1:], False),
                              (([0, quarter],) + quarters[1:], False), (((0, [1, 4]),) + quarters[1:], False),
                              (((0, quarter, 0),) + quarters[1:], False), (((0, (1, 2)),) + quarters[1:], False),
                              (((0, (-1, 4)), (1, (3, 4))) + quarters[2:], False), ((0, quarter), False)):
            self.judged(SQUARE, 1, Least(oval, shares), right)
        for other, right in ((Oval((0, 0), (1, 0, 1)), False), (Oval(((1, 10), 0), ((1, 2), 0, (1, 2))), False),
                             (Oval((0, 0), ((9, 20), 0, (1, 2))), True), (Oval(((1, 20), 0), ((9, 20), 0, (1, 2))), True)):
            self.judged(SQUARE, 1, Least(other, quarters), right)
        # With a middle, it must be just this one.
        wide = Least(Oval(((1, 20), 0), ((9, 20), 0, (1, 2))), quarters)
        self.judged(SQUARE, 1, wide, False, (0, 0))
        self.judged(SQUARE, 1, wide, True, ((1, 20), 0))
        self.judged(SQUARE, 1, wide, True, [[2, 40], 0])

    def test_of_other_kinds(self):
        for value in ANYTHING + (Oval((0, 0), ((1, 2), 0, (1, 2))),):
            self.assertIs(is_least_oval(SQUARE, 3, value), False)
            self.assertIs(is_least_oval(SQUARE, 3, Least(value, ((0, 1),))), False)


class Errors(unittest.TestCase):
    def test_in_their_order(self):
        calls = (least_oval, lambda points, bits, middle=None: is_least_oval(points, bits, None, middle),
                 lambda points, bits, middle=None: least_oval(points, bits, middle=middle))
        for call in calls:
            for points in ((), [], None, 5, "12", [1, 2], [(1,)], [(1, 2, 3)], [(1, 2), (3,)], [(1, 2), None], {0: (1, 2)},
                           [(1, None), (2, 3)], [{0: 1, 1: 2}], [()], (1, 2)):
                expect(self, BadRow, {"row": points}, call, points, None, 5)
            for value in NO_RATIOS:
                points = [(0, 0), (1, 0), (0, value)]
                expect(self, BadRow, {"row": points}, call, points, 3)
            for middle in BAD_PAIRS:
                if middle is not None:
                    expect(self, BadRow, {"row": middle}, lambda about: call([(1, 1), (2, 2)], None, about), middle)
            for value in NO_RATIOS:
                middle = [value, 0]
                expect(self, BadRow, {"row": middle}, lambda about: call(SQUARE, 3, about), middle)
            for points in ([(0, 0)], [(1, 1), (2, 2)], [(0, 0), (0, 0), (0, 0)], [(1, 2), (3, 4), (5, 6)], [(7, 1), (7, 2), (7, -9)],
                           [((1, 3), (1, 3)), ((1, 2), (1, 2)), (0, 0)]):
                expect(self, BadRow, {"row": points}, call, points, None)
            for points, middle in (([(1, 1)], (2, 2)), ([(1, 1)], (1, 1)), ([(1, 2), (3, 4)], (5, 6)), ([(0, 0), (0, 0)], (3, 1)),
                                   ([(1, 2), (3, 4)], (1, 2))):
                expect(self, BadRow, {"row": points}, lambda told: call(told, None, middle), points)
            for bits in BAD_BITS:
                expect(self, BadNumber, {"what": "bits", "number": bits}, call, SQUARE, bits)
                expect(self, BadNumber, {"what": "bits", "number": bits}, lambda told: call(TRIANGLE, told, (0, 0)), bits)
        # Two points and a middle beside their line will do.
        self.assertIs(type(least_oval([(1, 2), (3, 4)], 3, (5, 7))), Least)


class Kept(unittest.TestCase):
    def test_keep_what_they_are_given(self):
        inner = [1, 2]
        row = [inner, 3]
        made = Least(row, row)
        self.assertEqual(list(vars(made)), ["oval", "shares"])
        for value in vars(made).values():
            self.assertIs(type(value), tuple)
            self.assertIs(value[0], inner)
        self.assertTrue(made == made)
        self.assertFalse(made == Least(row, row))
        self.assertEqual(frss([[1, 2]]), [[Fraction(1), Fraction(2)]])


if __name__ == "__main__":
    unittest.main()
