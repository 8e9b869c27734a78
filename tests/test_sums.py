"""Promises [6] and [8]: sums of inequalities."""

import unittest
from math import lcm

from bestlooks.errors import BadRow
from bestlooks.sums import Endless, Nothing, Reached, is_largest, largest
from tests.judging import Numbers, dotted, fr, frs, frss, hold_judge, is_judged, is_judged_row, is_pair, is_pair_row
from tests.judging import pair_of, pairs_of
from tests.values import NO_RATIOS, copied, expect


def is_right(rows, right, worth, told):
    """What [6] says of a told value, by sums of the test's own."""
    rows, right, worth = frss(rows), frs(right), frs(worth)
    columns = [list(column) for column in zip(*rows)]

    def are_spots(spots):
        if not is_judged_row(spots, len(worth)) or any(item < 0 for item in frs(spots)):
            return False
        return all(dotted(row, frs(spots)) <= item for row, item in zip(rows, right))

    def are_weights(weights):
        return is_judged_row(weights, len(rows)) and all(item >= 0 for item in frs(weights))

    if type(told) is Reached:
        if not is_judged(told.number) or not are_spots(told.spots) or not are_weights(told.weights):
            return False
        if not dotted(worth, frs(told.spots)) == fr(told.number) == dotted(right, frs(told.weights)):
            return False
        return all(dotted(column, frs(told.weights)) >= item for column, item in zip(columns, worth))
    if type(told) is Endless:
        if not are_spots(told.spots) or not is_judged_row(told.run, len(worth)):
            return False
        run = frs(told.run)
        if any(item < 0 for item in run) or any(dotted(row, run) > 0 for row in rows):
            return False
        return dotted(worth, run) > 0
    if type(told) is not Nothing or not are_weights(told.weights):
        return False
    weights = frs(told.weights)
    return all(dotted(column, weights) >= 0 for column in columns) and dotted(right, weights) < 0


def over_one_bottom(row):
    """The tops of a row of ratios over one bottom, and this bottom."""
    pairs = [(item, 1) if isinstance(item, int) else item for item in row]
    bottom = lcm(*[low for _, low in pairs])
    return [top * (bottom // low) for top, low in pairs], bottom


class Largest(unittest.TestCase):
    def holds(self, rows, right, worth, kind, number=None):
        before = copied((rows, right, worth))
        found = largest(rows, right, worth)
        self.assertIs(type(found), kind, (rows, right, worth))
        self.assertTrue(is_right(rows, right, worth, found), (rows, right, worth, vars(found)))
        for name, value in vars(found).items():
            if name == "number":
                self.assertTrue(is_pair(value))
            else:
                self.assertTrue(is_pair_row(value, len(rows) if name == "weights" else len(worth)), value)
        if number is not None:
            self.assertEqual(found.number, number)
        self.assertIs(is_largest(rows, right, worth, found), True)
        self.assertEqual(copied((rows, right, worth)), before)
        return found

    def test_ordinary(self):
        self.holds([[1, 1], [1, 3]], [4, 6], [3, 5], Reached, (14, 1))
        self.holds(((2, 1), (1, 2)), ((3, 2), 1), (1, 1), Reached, (5, 6))
        self.holds([[[1, 2], (1, 3)]], ((5, 7),), [1, (1, 2)], Reached, (10, 7))

    def test_one_row_of_one_item(self):
        self.holds([[2]], [5], [3], Reached, (15, 2))
        self.holds([[2]], [0], [3], Reached, (0, 1))
        self.holds([[2]], [-1], [3], Nothing)
        self.holds([[-2]], [-1], [3], Endless)
        self.holds([[-2]], [-1], [-3], Reached, (-3, 2))
        self.holds([[-2]], [-1], [0], Reached, (0, 1))
        self.holds([[0]], [0], [1], Endless)
        self.holds([[0]], [-1], [1], Nothing)

    def test_rights_below_at_and_above_nought(self):
        self.holds([[1, 1], [-1, -1], [1, -1]], [5, -2, 0], [2, -1], Reached, (5, 2))
        self.holds([[1, 2], [-1, -2]], [3, -3], [-1, -1], Reached, (-3, 2))
        self.holds([[-1, 0], [0, -1], [1, 1]], [-1, -1, 2], [1, 7], Reached, (8, 1))

    def test_ties_and_rows_twice(self):
        self.holds([[1, 1], [1, 1], [2, 2]], [1, 1, 2], [1, 1], Reached, (1, 1))
        self.holds([[1, 0], [1, 0], [0, 1], [0, 1], [1, 1]], [1, 1, 1, 1, 2], [1, 1], Reached, (2, 1))
        self.holds([[1, -1], [1, -1], [-1, 1], [-1, 1]], [0, 0, 0, 0], [1, -1], Reached, (0, 1))

    def test_steps_that_gain_nothing(self):
        # A board known to lead round in a ring without care.
        rows = [[(1, 4), -60, (-1, 25), 9], [(1, 2), -90, (-1, 50), 3], [0, 0, 1, 0]]
        self.holds(rows, [0, 0, 1], [(3, 4), -150, (1, 50), -6], Reached, (1, 20))
        rows = [[(1, 2), (-11, 2), (-5, 2), 9], [(1, 2), (-3, 2), (-1, 2), 1], [1, 0, 0, 0]]
        self.holds(rows, [0, 0, 1], [10, -57, -9, -24], Reached, (1, 1))

    def test_bars_all(self):
        self.holds([[1, 1], [-1, -1]], [1, -2], [1, 1], Nothing)
        self.holds([[1, -1], [-1, 1]], [-1, -1], [0, 0], Nothing)
        self.holds([[0, 0], [0, 0]], [0, -1], [0, 0], Nothing)

    def test_no_end(self):
        found = self.holds([[1, -1]], [2], [0, 1], Endless)
        self.assertTrue(is_pair_row(found.spots, 2))
        self.holds([[-1, -1]], [-2], [1, -1], Endless)
        self.holds([[1, -1], [-1, 1]], [1, 1], [1, 0], Endless)
        # Spots without an end, but a worth that is 0 throughout, or falls along them.
        self.holds([[1, -1]], [2], [0, 0], Reached, (0, 1))
        self.holds([[-1, -1]], [-2], [0, 0], Reached, (0, 1))
        self.holds([[-1, -1]], [-2], [-1, -1], Reached, (-2, 1))

    def test_zeros_alone(self):
        self.holds([[0, 0], [0, 0]], [0, 0], [0, 0], Reached, (0, 1))
        self.holds([[0, 0]], [0], [-1, -1], Reached, (0, 1))
        self.holds([[0, 0]], [3], [0, 1], Endless)

    def test_many_small_ones(self):
        numbers = Numbers(1)
        kinds = {Reached: 0, Endless: 0, Nothing: 0}
        for _ in range(500):
            height, wide = numbers.between(1, 6), numbers.between(1, 5)
            few = lambda: numbers.one_of((0, 0, 1, 1, -1, 2, -3, (1, 2), (-5, 3), 7))
            rows = [[few() for _ in range(wide)] for _ in range(height)]
            right = [few() for _ in range(height)]
            worth = [few() for _ in range(wide)]
            found = largest(rows, right, worth)
            kinds[type(found)] += 1
            self.assertTrue(is_right(rows, right, worth, found), (rows, right, worth, vars(found)))
            self.assertIs(is_largest(rows, right, worth, found), True)
        self.assertTrue(min(kinds.values()) > 50, kinds)

    def test_sizes(self):
        for seed in range(6):
            numbers = Numbers(100 + seed)
            rows = numbers.rows(40, 24, 9, 1 if seed < 4 else 3)
            if seed % 2:
                rows[:3] = [[numbers.between(1, 5) for _ in range(24)] for _ in range(3)]
            right = [numbers.between(0 if seed % 3 else -2, 30) for _ in range(40)]
            worth = numbers.row(24)
            found = largest(rows, right, worth)
            self.assertTrue(is_right(rows, right, worth, found))
            self.assertIs(is_largest(rows, right, worth, found), True)

    def test_equal_right_noughts_at_size(self):
        numbers = Numbers(44)
        rows = [[numbers.between(-9, 9) for _ in range(24)] for _ in range(39)] + [[1] * 24]
        self.holds(rows, [0] * 39 + [1], [1] * 24, Reached)

    def planted(self, numbers, height, wide, digits):
        """Rows of long numbers with spots among them, and without an end."""
        rows = [[numbers.long(digits) for _ in range(wide)] for _ in range(height - 1)] + [[1] * wide]
        spots = [numbers.between(0, 9) for _ in range(wide)]
        return rows, [pair_of(dotted(frs(row), spots) + 1) for row in rows]

    def test_long_numbers_at_size(self):
        numbers = Numbers(120)
        rows, right = self.planted(numbers, 40, 24, 10)
        worth = [numbers.long(10) for _ in range(24)]
        self.holds(rows, right, worth, Reached)
        # One row must then be more than the last one lets it be.
        first = [(-top, bottom) for top, bottom in rows[0]]
        self.holds(rows[1:] + [first], right[1:] + [(-10 ** 40, 1)], worth, Nothing)
        # All rows fall along a run along which worth rises.
        run = [abs(item) for item in frs(numbers.row(24))]
        falling = [row if dotted(frs(row), run) <= 0 else [(-top, bottom) for top, bottom in row] for row in rows[:-1]]
        falling.append([-1] * 24)
        self.holds(falling, [-10 - k for k in range(40)], pairs_of(run), Endless)

    def test_the_longest_numbers_at_size(self):
        numbers = Numbers(130)
        rows, right = self.planted(numbers, 40, 24, 40)
        worth = [numbers.long() for _ in range(24)]
        found = largest(rows, right, worth)
        self.assertIs(type(found), Reached)
        self.assertIs(is_largest(rows, right, worth, found), True)
        spots, bottom = over_one_bottom(found.spots)
        self.assertTrue(min(spots) >= 0)
        for row, most in zip(rows, right):
            items, low = over_one_bottom(row)
            self.assertTrue(sum(a * b for a, b in zip(items, spots)) * most[1] <= most[0] * low * bottom)
        weights, below = over_one_bottom(found.weights)
        self.assertTrue(min(weights) >= 0)
        for column, least in zip(zip(*rows), worth):
            items, low = over_one_bottom([fr(item).as_integer_ratio() for item in column])
            self.assertTrue(sum(a * b for a, b in zip(items, weights)) * least[1] >= least[0] * low * below)
        items, low = over_one_bottom(worth)
        rights, under = over_one_bottom(right)
        value = sum(a * b for a, b in zip(items, spots)), low * bottom
        barred = sum(a * b for a, b in zip(rights, weights)), under * below
        self.assertEqual(value[0] * barred[1], barred[0] * value[1])
        self.assertEqual(value[0] * found.number[1], found.number[0] * value[1])

    def test_numbers_of_unlike_lengths(self):
        numbers = Numbers(131)
        kinds = {Reached: 0, Endless: 0, Nothing: 0}

        def some():
            if numbers.below(5) == 0:
                return 0
            return (numbers.one_of((1, -1)) * numbers.between(1, 9) * 10 ** numbers.below(300), 10 ** numbers.below(300))

        for _ in range(150):
            height, wide = numbers.between(2, 6), numbers.between(2, 6)
            rows = [[some() for _ in range(wide)] for _ in range(height)]
            right, worth = [some() for _ in range(height)], [some() for _ in range(wide)]
            found = largest(rows, right, worth)
            kinds[type(found)] += 1
            self.assertTrue(is_right(rows, right, worth, found), (rows, right, worth))
            self.assertIs(is_largest(rows, right, worth, found), True)
        self.assertTrue(min(kinds.values()) > 10, kinds)

    def test_long_numbers(self):
        numbers = Numbers(7)
        for height, wide in ((3, 2), (8, 6), (20, 8)):
            rows = [[numbers.long() for _ in range(wide)] for _ in range(height)]
            rows[0] = [(abs(top), bottom) for top, bottom in rows[0]]
            right = [tuple(map(abs, numbers.long())) for _ in range(height)]
            worth = [numbers.long() for _ in range(wide)]
            self.holds(rows, right, worth, Reached)
        big = 10 ** 39 + 7
        self.holds([[(1, big)]], [(big, 3)], [big], Reached, (big ** 3, 3))


class IsLargest(unittest.TestCase):
    CASES = (
        ([[1, 1], [1, 3]], [4, 6], [3, 5]),
        ([[1, 2], [-1, -2]], [3, -3], [-1, -1]),
        ([[0, 0]], [0], [0, 0]),
        ([[1, -1]], [2], [0, 1]),
        ([[-1, -1], [0, 0]], [-2, 0], [1, -1]),
        ([[1, 1], [-1, -1]], [1, -2], [1, 1]),
        ([[(1, 2)]], [(-1, 3)], [0]),
        ([[2, 1], [1, 2], [3, 3]], [(3, 2), 1, (5, 2)], [1, 1]),
    )

    def test_changed_in_one_thing(self):
        for case in self.CASES:
            told = largest(*case)
            hold_judge(self, is_largest, case, told, lambda value: is_right(*case, value))

    def test_not_the_greatest(self):
        rows, right, worth = [[1, 1], [1, 3]], [4, 6], [3, 5]
        self.assertIs(is_largest(rows, right, worth, Reached(14, (3, 1), (2, 1))), True)
        self.assertIs(is_largest(rows, right, worth, Reached(12, (4, 0), (3, 0))), False)
        self.assertIs(is_largest(rows, right, worth, Reached(12, (4, 0), (2, 1))), False)
        self.assertIs(is_largest(rows, right, worth, Reached(20, (3, 1), (5, 0))), False)
        self.assertIs(is_largest(rows, right, worth, Reached(14, (8, -2), (2, 1))), False)
        self.assertIs(is_largest(rows, right, worth, Reached(14, [3, 1], [2, 1])), True)
        self.assertIs(is_largest(rows, right, worth, Reached(14, ([3, 1], 1), (2, 1))), False)
        self.assertIs(is_largest(rows, right, worth, Reached(14, (3, True), (2, 1))), False)
        self.assertIs(is_largest(rows, right, worth, Endless((3, 1), (1, 1))), False)
        self.assertIs(is_largest(rows, right, worth, Nothing((2, 1))), False)

    def test_other_class(self):
        self.assertIs(is_largest([[1, -1]], [2], [0, 1], Endless((0, 0), (1, 1))), True)
        self.assertIs(is_largest([[1, -1]], [2], [0, 1], Endless((0, 0), (0, 0))), False)
        self.assertIs(is_largest([[1, -1]], [2], [0, 1], Endless((0, 0), (2, 1))), False)
        self.assertIs(is_largest([[1, -1]], [2], [0, 1], Endless((0, -1), (1, 1))), False)
        self.assertIs(is_largest([[1, -1]], [2], [0, 1], Reached(0, (0, 0), (0,))), False)
        self.assertIs(is_largest([[1], [-1]], [1, -2], [1], Nothing((1, 1))), True)
        self.assertIs(is_largest([[1], [-1]], [1, -2], [1], Nothing((3, 2))), True)
        self.assertIs(is_largest([[1], [-1]], [1, -2], [1], Nothing((2, 3))), False)
        self.assertIs(is_largest([[1], [-1]], [1, -2], [1], Nothing((-1, 1))), False)


class Kept(unittest.TestCase):
    def test_keep_what_they_are_given(self):
        inner = [1, 2]
        row = [inner, 3]
        for made in (Reached(row, row, row), Endless(row, row), Nothing(row)):
            for value in vars(made).values():
                self.assertIs(type(value), tuple)
                self.assertIs(value[0], inner)
        self.assertEqual(list(vars(Reached(1, 2, 3))), ["number", "spots", "weights"])
        self.assertEqual(list(vars(Endless(1, 2))), ["spots", "run"])
        self.assertEqual(list(vars(Nothing(1))), ["weights"])
        self.assertEqual(vars(Reached("a", None, (2, 4))), {"number": "a", "spots": None, "weights": (2, 4)})

    def test_equal_to_itself_alone(self):
        for make in (lambda: Reached(1, (1,), (1,)), lambda: Endless((1,), (1,)), lambda: Nothing((1,))):
            one, other = make(), make()
            self.assertTrue(one == one)
            self.assertFalse(one == other)


class Errors(unittest.TestCase):
    BAD_ROWS = ((), [], [[]], [()], [[1], []], [[1], [1, 2]], [1], [[1], 1], None, 3, "ab", [[1, None]], ["ab"],
                {0: [1]}, [[True]], [[(1, 0)]], [{1: 2}])

    def test_rows(self):
        for rows in self.BAD_ROWS:
            expect(self, BadRow, {"row": rows}, largest, rows, None, None)
            expect(self, BadRow, {"row": rows}, is_largest, rows, [1], [1], None)
        for value in NO_RATIOS:
            rows = [[1, value], [1, 1]]
            expect(self, BadRow, {"row": rows}, largest, rows, [1, 1], [1, 1])

    def test_right(self):
        rows = [[1, 2], [3, 4]]
        for right in ((), [1], [1, 2, 3], None, 5, "12", [1, None], [1, (1, 0)], (True, 1), {0: 1, 1: 2}):
            expect(self, BadRow, {"row": right}, largest, rows, right, None)
            expect(self, BadRow, {"row": right}, is_largest, rows, right, [1, 2], None)
        for value in NO_RATIOS:
            right = (1, value)
            expect(self, BadRow, {"row": right}, largest, rows, right, [1, 1])

    def test_worth(self):
        rows = [[1, 2, 3], [3, 4, 5]]
        for worth in ((), [1], [1, 2], [1, 2, 3, 4], None, 5, "123", [1, 2, None], [1, 2, (1, -1)]):
            expect(self, BadRow, {"row": worth}, largest, rows, (1, 1), worth)
            expect(self, BadRow, {"row": worth}, is_largest, rows, (1, 1), worth, None)
        for value in NO_RATIOS:
            worth = (1, value, 1)
            expect(self, BadRow, {"row": worth}, largest, rows, [1, 1], worth)


if __name__ == "__main__":
    unittest.main()
