"""Promises [46] and [47]: ovals."""

import unittest
from fractions import Fraction

from bestlooks.errors import BadNumber, BadRow
from bestlooks.ovals import Oval, holds, moved_oval, size_of
from tests.judging import Numbers, fr, frs, is_pair, pair_of, pairs_of
from tests.values import NO_RATIOS, copied, expect, fields_of

LITTLE = Fraction(1, 10 ** 12)
BAD_PAIRS = ((), (1,), (1, 2, 3), None, 5, "12", {0: 1, 1: 2}, [1, None], ((1, 0), 1), {1, 2}, ((1, 2),))


def height_by_hand(oval, point):
    """p * u * u + 2 * q * u * v + r * v * v."""
    (a, b), (p, q, r) = frs(oval.middle), frs(oval.form)
    u, v = fr(point[0]) - a, fr(point[1]) - b
    return p * u * u + 2 * q * u * v + r * v * v


def size_by_hand(oval):
    p, q, r = frs(oval.form)
    return 1 / (p * r - q * q)


def drawn(numbers):
    """A drawn Oval."""
    a, b, c = frs(numbers.row(3))
    # A form from squares is above nought.
    form = (a * a + Fraction(1, 9), a * b, b * b + c * c + 1)
    return Oval(numbers.row(2), pairs_of(form))


class Ovals(unittest.TestCase):
    def test_attributes(self):
        middle, form = [0, [2, 4]], ([4, 2], (0, 3), 1)
        before = copied((middle, form))
        oval = Oval(middle, form)
        self.assertEqual(oval.middle, ((0, 1), (1, 2)))
        self.assertEqual(oval.form, ((2, 1), (0, 1), (1, 1)))
        self.assertEqual(list(vars(oval)), ["middle", "form"])
        self.assertEqual(copied((middle, form)), before)

    def test_equal(self):
        one = Oval((0, 1), (2, 1, 1))
        self.assertTrue(one == Oval([(0, 5), (3, 3)], [(4, 2), 1, [7, 7]]))
        self.assertFalse(one != Oval([(0, 5), (3, 3)], [(4, 2), 1, [7, 7]]))
        for other in (Oval((0, 2), (2, 1, 1)), Oval((1, 1), (2, 1, 1)), Oval((0, 1), (2, -1, 1)), Oval((0, 1), (3, 1, 1)),
                      Oval((0, 1), (2, 1, 2)), None, 0, ((0, 1), (2, 1, 1)), "oval"):
            self.assertFalse(one == other)

    def test_middles_that_are_none(self):
        for middle in BAD_PAIRS:
            expect(self, BadRow, {"row": middle}, Oval, middle, None)
        for value in NO_RATIOS:
            middle = [value, 1]
            expect(self, BadRow, {"row": middle}, Oval, middle, (1, 0, 1))

    def test_forms_that_are_none(self):
        little = pair_of(LITTLE)
        for form in ((1, 0, 0), (0, 0, 1), (0, 0, 0), (-1, 0, -1), (1, 1, 1), (4, 2, 1), (1, 2, 1), (1, -2, 3), (0, 1, 0),
                     (-2, 1, -3), (1, 0, -1), (-1, 0, 1), (1, (1, 2), (1, 4)), (1, 1, (10 ** 12 - 1, 10 ** 12)), (1, 0),
                     (1, 0, 1, 0), (), (1,), None, 3, "101", {0: 1, 1: 0, 2: 1}, (1, 0, None), ((1, 0, 1),),
                     (pair_of(-LITTLE), 0, little)):
            expect(self, BadRow, {"row": form}, Oval, (0, 0), form)
        for value in NO_RATIOS:
            form = [1, 0, value]
            expect(self, BadRow, {"row": form}, Oval, (0, 0), form)
        self.assertEqual(Oval((0, 0), (1, 1, (10 ** 12 + 1, 10 ** 12))).form[2], (10 ** 12 + 1, 10 ** 12))
        self.assertEqual(Oval((0, 0), (little, 0, little)).form[0], little)

    def test_size(self):
        self.assertEqual(size_of(Oval((0, 0), (1, 0, 1))), (1, 1))
        self.assertEqual(size_of(Oval((7, -3), ((1, 4), 0, (1, 9)))), (36, 1))
        self.assertEqual(size_of(Oval((7, -3), (2, 1, 1))), (1, 1))
        self.assertEqual(size_of(Oval((7, -3), (3, 1, 1))), (1, 2))
        self.assertEqual(size_of(Oval((0, 0), ((1, 10 ** 12), 0, 10 ** 12))), (1, 1))
        numbers = Numbers(240)
        for _ in range(20):
            oval = drawn(numbers)
            self.assertEqual(size_of(oval), pair_of(size_by_hand(oval)))


class Holding(unittest.TestCase):
    def test_on_the_rim(self):
        # Points of the circle, and a part in 10 ** 12 beside them; slim and wide ovals likewise.
        circle = [(1, 0), (0, -1), ((3, 5), (4, 5)), ((-5, 13), (12, 13))]
        for wide in (Fraction(1), Fraction(1, 10 ** 6), Fraction(10 ** 6), Fraction(3, 7)):
            oval = Oval((3, (-1, 2)), (pair_of(1 / wide ** 2), 0, 1))
            for x, y in circle:
                for factor, inside in ((Fraction(1), True), (1 - LITTLE, True), (1 + LITTLE, False), (Fraction(2), False),
                                       (Fraction(0), True), (-1 - LITTLE, False), (-Fraction(1), True)):
                    point = (pair_of(3 + fr(x) * wide * factor), pair_of(Fraction(-1, 2) + fr(y) * factor))
                    self.assertIs(holds(oval, point), inside)
                    self.assertIs(holds(oval, [list(point[0]), point[1]]), inside)
        self.assertIs(holds(Oval((0, 0), (1, 0, 1)), (10 ** 20, 0)), False)
        self.assertIs(holds(Oval((0, 0), (1, 0, 1)), (0, -10 ** 20)), False)

    def test_leaning(self):
        oval = Oval((0, 0), (2, 1, 1))
        for point, inside in (((0, 1), True), ((1, -1), True), ((1, 0), False), ((-1, 1), True), ((0, -1), True),
                              (((1, 2), (1, 2)), False), (((1, 2), (-1, 2)), True), ((1, -2), False), ((1, 1), False)):
            self.assertIs(holds(oval, point), inside, point)
        numbers = Numbers(241)
        found = {True: 0, False: 0}
        for _ in range(200):
            oval, point = drawn(numbers), numbers.row(2)
            expected = height_by_hand(oval, point) <= 1
            self.assertIs(holds(oval, point), expected)
            near = [pair_of(fr(a) + (fr(b) - fr(a)) / 9) for a, b in zip(oval.middle, point)]
            expected = height_by_hand(oval, near) <= 1
            self.assertIs(holds(oval, near), expected)
            found[expected] += 1
        self.assertTrue(min(found.values()) > 10)

    def test_points_that_are_none(self):
        oval = Oval((0, 0), (1, 0, 1))
        for point in BAD_PAIRS:
            expect(self, BadRow, {"row": point}, holds, oval, point)
        for value in NO_RATIOS:
            point = [0, value]
            expect(self, BadRow, {"row": point}, holds, oval, point)


class Moving(unittest.TestCase):
    MATRICES = ((1, 0, 0, 1), (0, 1, 1, 0), (2, 0, 0, 3), (1, 1, 0, 1), (-1, 0, 0, 1), (3, 4, 1, 2), ((1, 2), 5, -1, (1, 3)),
                (10 ** 6, 1, 0, (1, 10 ** 6)))

    def test_by_hand(self):
        moved = moved_oval(Oval((1, 0), (1, 0, 1)), (2, 0, 0, 3), (5, -1))
        self.assertTrue(moved == Oval((7, -1), ((1, 4), 0, (1, 9))))
        moved = moved_oval(Oval((1, 2), (1, 0, 1)), [1, 1, 0, [2, 2]], [0, (0, 7)])
        self.assertTrue(moved == Oval((3, 2), (1, -1, 2)))
        moved = moved_oval(Oval((1, 2), (1, 0, 4)), (0, 1, -1, 0), (0, 0))
        self.assertTrue(moved == Oval((2, -1), (4, 0, 1)))

    def test_points_and_sizes(self):
        numbers = Numbers(242)
        for matrix in self.MATRICES:
            a, b, c, d = frs(matrix)
            det = a * d - b * c
            for _ in range(5):
                oval, shift = drawn(numbers), numbers.row(2)
                moved = moved_oval(oval, matrix, shift)
                self.assertIs(type(moved), Oval)
                self.assertTrue(all(is_pair(item) for item in moved.middle + moved.form))
                self.assertEqual(size_by_hand(moved), size_by_hand(oval) * det ** 2)
                e, f = frs(shift)
                for point in [oval.middle] + [numbers.row(2) for _ in range(4)]:
                    x, y = frs(point)
                    there = (pair_of(a * x + b * y + e), pair_of(c * x + d * y + f))
                    self.assertEqual(height_by_hand(moved, there), height_by_hand(oval, point))
                back = pairs_of((d / det, -b / det, -c / det, a / det))
                shift = pairs_of((-(d * e - b * f) / det, -(a * f - c * e) / det))
                self.assertTrue(moved_oval(moved, back, shift) == oval)

    def test_errors_in_their_order(self):
        oval = Oval((0, 0), (1, 0, 1))
        for matrix in ((), (1, 0, 0), (1, 0, 0, 1, 0), None, 5, "1001", {0: 1}, [[1, 0], [0, 1]], (1, 0, 0, None)):
            expect(self, BadRow, {"row": matrix}, moved_oval, oval, matrix, None)
        for value in NO_RATIOS:
            matrix = [1, 0, value, 1]
            expect(self, BadRow, {"row": matrix}, moved_oval, oval, matrix, (0, 0))
            shift = [value, 0]
            expect(self, BadRow, {"row": shift}, moved_oval, oval, (0, 0, 0, 0), shift)
        for shift in BAD_PAIRS:
            expect(self, BadRow, {"row": shift}, moved_oval, oval, (1, 0, 0, 1), shift)
            expect(self, BadRow, {"row": shift}, moved_oval, oval, (1, 2, 2, 4), shift)
        for matrix in ((0, 0, 0, 0), (1, 2, 2, 4), ((1, 3), 1, 1, 3), (0, 0, 5, 7)):
            expected = {"what": "determinant", "number": 0}
            self.assertEqual(fields_of(self, BadNumber, moved_oval, oval, matrix, (0, 0)), expected)


if __name__ == "__main__":
    unittest.main()
