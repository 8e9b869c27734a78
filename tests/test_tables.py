"""Promises [7] and [8]: tables."""

import unittest
from fractions import Fraction
from itertools import permutations

from bestlooks.errors import BadNumber, BadRow, Unlike
from bestlooks.polys import Poly
from bestlooks.tables import Answer, BelowNought, NoAnswer, Squares, Table, is_squares, solved, squares_of
from tests.judging import Numbers, dotted, form_by_hand, fr, frs, frss, hold_judge, is_judged, is_judged_row, is_pair
from tests.judging import is_pair_row, pair_of, pairs_of, rank_by_hand, table_by_hand
from tests.values import NO_RATIOS, copied, expect, fields_of


def unit(many):
    return Table([[1 if i == j else 0 for j in range(many)] for i in range(many)])


def det_by_hand(rows):
    total = Fraction(0)
    for order in permutations(range(len(rows))):
        term = Fraction((-1) ** sum(a > b for k, b in enumerate(order) for a in order[:k]))
        for k, column in enumerate(order):
            term *= rows[k][column]
        total += term
    return total


def product_by_hand(one, other):
    return tuple(pairs_of(dotted(row, column) for column in zip(*other)) for row in one)


def is_right(table, told):
    """What [7] says of the squares of a Table, by sums of the test's own."""
    rows = frss(table.rows)
    if type(told) is BelowNought:
        if not is_judged_row(told.row, len(rows)) or not is_judged(told.number):
            return False
        return form_by_hand(rows, frs(told.row)) == fr(told.number) < 0
    if type(told) is not Squares or not isinstance(told.rows, tuple):
        return False
    if not all(is_judged_row(row, len(rows)) for row in told.rows) or not is_judged_row(told.weights, len(told.rows)):
        return False
    weights = frs(told.weights)
    if any(item <= 0 for item in weights):
        return False
    lines = frss(told.rows)
    wide = range(len(rows))
    return all(sum(w * r[i] * r[j] for w, r in zip(weights, lines)) == rows[i][j] for i in wide for j in wide)


class Making(unittest.TestCase):
    def test_lists_and_tuples(self):
        for rows in ([[1, 2, 3], [4, 5, 6]], ((1, 2, 3), (4, 5, 6)), [(1, (4, 2), 3), [[8, 2], 5, (6, 1)]]):
            before = copied(rows)
            table = Table(rows)
            self.assertEqual(table.rows, (((1, 1), (2, 1), (3, 1)), ((4, 1), (5, 1), (6, 1))))
            self.assertEqual((table.height, table.width), (2, 3))
            self.assertEqual(copied(rows), before)
        self.assertEqual(Table([[(2, -0 + 4)]]).rows, (((1, 2),),))
        self.assertEqual(list(vars(Table([[1]]))), ["rows", "height", "width"])

    def test_changing_the_list_later(self):
        rows = [[1, [1, 2]]]
        table = Table(rows)
        rows[0][1][0] = 7
        rows.append(3)
        self.assertEqual(table.rows, (((1, 1), (1, 2)),))

    def test_none(self):
        for rows in ((), [], [[]], ((),), [[1], [1, 2]], [[1, 2], [1]], [[], []], [1], 1, None, "ab", ["ab"], {},
                     {0: [1]}, [{0: 1}], [[1], None], [[None]], Table([[1]]), [Poly((1,))]):
            expect(self, BadRow, {"row": rows}, Table, rows)
        for value in NO_RATIOS:
            rows = [[1, 2], [3, value]]
            expect(self, BadRow, {"row": rows}, Table, rows)

    def test_equal(self):
        self.assertTrue(Table([[1, 2]]) == Table((((2, 2), (4, 2)),)))
        self.assertFalse(Table([[1, 2]]) == Table([[1], [2]]))
        self.assertFalse(Table([[1, 2]]) == Table([[1, 3]]))
        self.assertFalse(Table([[1, 2]]) == Table([[1, 2], [1, 2]]))
        self.assertFalse(Table([[1, 2]]) != Table([[1, 2]]))
        self.assertTrue(Table([[1, 2]]) != Table([[2, 1]]))
        for other in (None, 1, (((1, 1),),), [[1]], Poly((1,)), "x", object()):
            self.assertFalse(Table([[1]]) == other)
            self.assertTrue(Table([[1]]) != other)


class Signs(unittest.TestCase):
    def test_sums_and_differences(self):
        one, other = Table([[1, (1, 2)], [0, -3]]), Table([[2, (1, 3)], [(1, 7), 3]])
        self.assertEqual((one + other).rows, (((3, 1), (5, 6)), ((1, 7), (0, 1))))
        self.assertEqual((one - other).rows, (((-1, 1), (1, 6)), ((-1, 7), (-6, 1))))

    def test_products(self):
        self.assertEqual((Table([[1, 2], [3, 4]]) * Table([[0, 1], [1, 0]])).rows, Table([[2, 1], [4, 3]]).rows)
        self.assertEqual((Table([[1, 2, 3]]) * Table([[1], [2], [3]])).rows, (((14, 1),),))
        self.assertEqual((Table([[1], [2]]) * Table([[3, 4]])).rows, Table([[3, 4], [6, 8]]).rows)

    def test_ratios_on_either_side(self):
        table = Table([[1, (1, 2)], [0, -3]])
        for ratio in (2, (2, 1), (4, 2), -5, 0, (-7, 9), (10 ** 40, 3)):
            expected = tuple(pairs_of(fr(item) * fr(ratio) for item in row) for row in table.rows)
            self.assertEqual((table * ratio).rows, expected)
            self.assertEqual((ratio * table).rows, expected)
        self.assertEqual(table.rows, (((1, 1), (1, 2)), ((0, 1), (-3, 1))))

    def test_sizes_that_do_not_fit(self):
        shapes = [Table([[1] * wide] * height) for height in (1, 2, 3) for wide in (1, 2, 3)]
        for one in shapes:
            for other in shapes:
                if (one.height, one.width) != (other.height, other.width):
                    for call in (Table.__add__, Table.__sub__, lambda a, b: a + b, lambda a, b: a - b):
                        self.assertEqual(fields_of(self, Unlike, call, one, other), {"what": "sizes"})
                if one.width != other.height:
                    self.assertEqual(fields_of(self, Unlike, lambda a, b: a * b, one, other), {"what": "sizes"})
                else:
                    self.assertEqual(((one * other).height, (one * other).width), (one.height, other.width))

    def test_other_values_beside_a_sign(self):
        for value in (None, "a", 1.5, True, [1, 2], (1, 0), Poly((1,)), {}):
            for call in (lambda a, b: a * b, lambda a, b: b * a, lambda a, b: a + b, lambda a, b: b - a):
                with self.assertRaises(TypeError):
                    call(Table([[1]]), value)

    def test_many(self):
        numbers = Numbers(3)
        for _ in range(60):
            height, middle, wide = [numbers.between(1, 8) for _ in range(3)]
            one, more = numbers.rows(height, middle), numbers.rows(height, middle)
            other = numbers.rows(middle, wide)
            self.assertEqual((Table(one) * Table(other)).rows, product_by_hand(frss(one), frss(other)))
            pluses = tuple(pairs_of(fr(a) + fr(b) for a, b in zip(x, y)) for x, y in zip(one, more))
            self.assertEqual((Table(one) + Table(more)).rows, pluses)
            minuses = tuple(pairs_of(fr(a) - fr(b) for a, b in zip(x, y)) for x, y in zip(one, more))
            self.assertEqual((Table(one) - Table(more)).rows, minuses)


class Methods(unittest.TestCase):
    def test_turned(self):
        self.assertEqual(Table([[1, 2, 3], [4, 5, 6]]).turned().rows, Table([[1, 4], [2, 5], [3, 6]]).rows)
        self.assertEqual(Table([[(1, 2)]]).turned().rows, (((1, 2),),))

    def test_rank(self):
        self.assertEqual(Table([[0, 0], [0, 0]]).rank(), 0)
        self.assertEqual(Table([[1, 2], [2, 4]]).rank(), 1)
        self.assertEqual(Table([[0, 1], [1, 0]]).rank(), 2)
        self.assertEqual(Table([[1, 2, 3], [4, 5, 6], [7, 8, 9]]).rank(), 2)
        self.assertEqual(Table([[1], [2], [3]]).rank(), 1)
        self.assertEqual(Table([[0, 0, 0, (1, 7)]]).rank(), 1)
        numbers = Numbers(4)
        for _ in range(60):
            height, wide, inner = numbers.between(1, 8), numbers.between(1, 8), numbers.between(1, 4)
            table = Table(numbers.rows(height, inner)) * Table(numbers.rows(inner, wide))
            self.assertEqual(table.rank(), rank_by_hand(frss(table.rows)))

    def test_det(self):
        self.assertEqual(Table([[(3, 6)]]).det(), (1, 2))
        self.assertEqual(Table([[0]]).det(), (0, 1))
        self.assertEqual(Table([[0, 1], [1, 0]]).det(), (-1, 1))
        self.assertEqual(Table([[1, 2], [2, 4]]).det(), (0, 1))
        self.assertEqual(Table([[0, 0, 2], [0, 3, 1], [5, 1, 1]]).det(), (-30, 1))
        self.assertEqual(Table([[0, 1, 0], [0, 0, 1], [1, 0, 0]]).det(), (1, 1))
        numbers = Numbers(5)
        for _ in range(50):
            many = numbers.between(1, 5)
            rows = numbers.rows(many, many, numbers.one_of((1, 1, 9)))
            self.assertEqual(Table(rows).det(), pair_of(det_by_hand(frss(rows))))

    def test_inverse(self):
        self.assertEqual(Table([[0, 2], [1, 0]]).inverse().rows, (((0, 1), (1, 1)), ((1, 2), (0, 1))))
        self.assertEqual(Table([[(-2, 3)]]).inverse().rows, (((-3, 2),),))
        numbers = Numbers(6)
        for _ in range(50):
            many = numbers.between(1, 8)
            table = Table(numbers.rows(many, many, numbers.one_of((1, 9))))
            if table.rank() < many:
                expect_zero(self, table)
                continue
            found = table.inverse()
            self.assertEqual((table * found).rows, unit(many).rows)
            self.assertEqual((found * table).rows, unit(many).rows)

    def test_sizes_then_determinant(self):
        for rows in ([[1, 2]], [[1], [2]], [[1, 2, 3], [2, 4, 6]], [[0, 0]]):
            for call in (Table.det, Table.inverse, squares_of):
                self.assertEqual(fields_of(self, Unlike, call, Table(rows)), {"what": "sizes"})
            self.assertEqual(fields_of(self, Unlike, is_squares, Table(rows), None), {"what": "sizes"})
        for rows in ([[0]], [[1, 2], [2, 4]], [[1, 2, 3], [4, 5, 6], [7, 8, 9]], [[0] * 8] * 8):
            expect_zero(self, Table(rows))

    def test_large(self):
        numbers = Numbers(8)
        rows = [[numbers.long() for _ in range(8)] for _ in range(8)]
        table = Table(rows)
        self.assertEqual(table.rank(), 8)
        self.assertEqual((table * table.inverse()).rows, unit(8).rows)
        top, bottom = table.det()
        self.assertEqual(table.turned().det(), (top, bottom))
        self.assertEqual((table * table).det(), pair_of(fr((top, bottom)) ** 2))
        self.assertEqual(table.inverse().det(), pair_of(1 / fr((top, bottom))))
        self.assertEqual(Table(rows[:7] + [rows[0]]).det(), (0, 1))
        pluses = tuple(pairs_of(fr(a) + fr(b) for a, b in zip(x, y)) for x, y in zip(rows, zip(*rows)))
        self.assertEqual((table + table.turned()).rows, pluses)
        self.assertEqual((table - table.turned() * -1).rows, pluses)
        self.assertEqual((table * table).rows, product_by_hand(frss(rows), frss(rows)))


def expect_zero(case, table):
    case.assertEqual(fields_of(case, BadNumber, Table.inverse, table), {"what": "determinant", "number": 0})
    case.assertEqual(table.det(), (0, 1))


class Solved(unittest.TestCase):
    def holds(self, rows, right, kind):
        before = copied((rows, right))
        table = Table(rows)
        found = solved(table, right)
        self.assertEqual(copied((rows, right)), before)
        self.assertIs(type(found), kind, (rows, right))
        lines, asked = frss(table.rows), frs(right)
        if kind is Answer:
            self.assertTrue(is_pair_row(found.row, table.width))
            self.assertEqual([dotted(line, frs(found.row)) for line in lines], asked)
        else:
            self.assertTrue(is_pair_row(found.row, table.height))
            self.assertEqual([dotted(column, frs(found.row)) for column in zip(*lines)], [0] * table.width)
            self.assertEqual(dotted(frs(found.row), asked), 1)

    def test_ordinary(self):
        self.holds([[2, 1], [1, 3]], [3, (1, 2)], Answer)
        self.holds([[2, 1], [4, 2]], (3, 6), Answer)
        self.holds([[2, 1], [4, 2]], (3, 5), NoAnswer)
        self.holds([[0, 0]], [0], Answer)
        self.holds([[0, 0]], [(-1, 3)], NoAnswer)
        self.holds([[1], [2], [3]], [1, 2, 4], NoAnswer)
        self.holds([[1, 2, 3]], [[7, 5]], Answer)
        self.holds([[0, 1], [0, 2], [1, 0]], [1, 2, 5], Answer)

    def test_many(self):
        numbers = Numbers(9)
        kinds = {Answer: 0, NoAnswer: 0}
        for _ in range(150):
            height, wide, inner = numbers.between(1, 8), numbers.between(1, 8), numbers.between(1, 4)
            rows = (Table(numbers.rows(height, inner)) * Table(numbers.rows(inner, wide))).rows
            right = numbers.row(height)
            if numbers.below(2):
                x = frs(numbers.row(wide))
                right = pairs_of(dotted(row, x) for row in frss(rows))
            lines = frss(rows)
            longer = [line + [item] for line, item in zip(lines, frs(right))]
            kind = Answer if rank_by_hand(lines) == rank_by_hand(longer) else NoAnswer
            kinds[kind] += 1
            self.holds(rows, right, kind)
        self.assertTrue(min(kinds.values()) > 20)

    def test_large(self):
        numbers = Numbers(10)
        rows = [[numbers.long() for _ in range(8)] for _ in range(8)]
        self.holds(rows, [numbers.long() for _ in range(8)], Answer)
        self.holds(rows[:7] + [rows[0]], [numbers.long() for _ in range(8)], NoAnswer)

    def test_bad_right(self):
        table = Table([[1, 2, 3], [4, 5, 6]])
        for right in ((), [1], [1, 2, 3], None, 3, "12", {0: 1, 1: 2}, [1, None], [[1, 0], 2], Table([[1, 2]])):
            expect(self, BadRow, {"row": right}, solved, table, right)
        for value in NO_RATIOS:
            right = [value, 1]
            expect(self, BadRow, {"row": right}, solved, table, right)


class SquaresOf(unittest.TestCase):
    def holds(self, table, kind):
        found = squares_of(table)
        self.assertIs(type(found), kind, table.rows)
        self.assertTrue(is_right(table, found), (table.rows, vars(found)))
        if kind is Squares:
            self.assertTrue(is_pair_row(found.weights, len(found.rows)))
            self.assertTrue(isinstance(found.rows, tuple))
            self.assertTrue(all(is_pair_row(row, table.height) for row in found.rows))
        else:
            self.assertTrue(is_pair_row(found.row, table.height))
            self.assertTrue(is_pair(found.number))
        self.assertIs(is_squares(table, found), True)
        return found

    def test_ordinary(self):
        self.holds(Table([[2, 1], [1, 3]]), Squares)
        self.holds(Table([[1, 2], [2, 4]]), Squares)
        self.holds(Table([[1, 2], [2, 3]]), BelowNought)
        self.holds(Table([[-1]]), BelowNought)
        self.holds(Table([[(1, 3)]]), Squares)

    def test_zeros(self):
        for many in range(1, 9):
            found = self.holds(Table([[0] * many] * many), Squares)
            self.assertEqual((found.weights, found.rows), ((), ()))

    def test_nought_on_the_diagonal(self):
        self.holds(Table([[0, 1], [1, 0]]), BelowNought)
        self.holds(Table([[0, -1], [-1, 0]]), BelowNought)
        self.holds(Table([[0, 1], [1, 5]]), BelowNought)
        self.holds(Table([[5, 1], [1, 0]]), BelowNought)
        self.holds(Table([[0, 0], [0, 5]]), Squares)
        self.holds(Table([[0, 0, 0], [0, 1, 1], [0, 1, 1]]), Squares)
        self.holds(Table([[1, 1, 0], [1, 1, 1], [0, 1, 7]]), BelowNought)
        self.holds(Table([[1, 0, 0], [0, 0, (1, 10 ** 12)], [0, (1, 10 ** 12), 0]]), BelowNought)

    def test_by_very_little(self):
        little = (1, 10 ** 12)
        for many in range(1, 9):
            numbers = Numbers(50 + many)
            lines = frss(numbers.rows(many, many))
            full = Table([pairs_of(row) for row in table_by_hand(lines, [1] * many)])
            low = Table([pairs_of(row) for row in table_by_hand(lines[:-1] or [[0]], [1] * max(1, many - 1))])
            self.holds(full, Squares)
            self.holds(low, Squares)
            self.holds(low - unit(many) * little, BelowNought)
            self.holds(low + unit(many) * little, Squares)

    def test_many(self):
        numbers = Numbers(11)
        kinds = {Squares: 0, BelowNought: 0}
        for _ in range(120):
            many, inner = numbers.between(1, 6), numbers.between(1, 7)
            lines = frss(numbers.rows(inner, many, 4, 3))
            weights = [Fraction(numbers.between(1, 5))] * inner
            if numbers.below(2):
                weights[0] = Fraction(-1, numbers.between(1, 9))
            table = Table([pairs_of(row) for row in table_by_hand(lines, weights)])
            found = squares_of(table)
            self.assertTrue(is_right(table, found), (table.rows, vars(found)))
            self.assertIs(is_squares(table, found), True)
            kinds[type(found)] += 1
        self.assertTrue(min(kinds.values()) > 10, kinds)

    def test_large(self):
        numbers = Numbers(12)
        rows = Table([[numbers.long() for _ in range(8)] for _ in range(8)])
        self.holds(rows.turned() * rows, Squares)
        less = Table([[numbers.long() for _ in range(8)] for _ in range(5)])
        self.holds(less.turned() * less, Squares)
        self.holds(less.turned() * less - unit(8) * (1, 10 ** 40), BelowNought)

    def test_sizes_then_even(self):
        for rows in ([[1, 2], [3, 4]], [[0, 1], [-1, 0]], [[1, 2, 3], [2, 1, 4], [3, 5, 1]]):
            self.assertEqual(fields_of(self, Unlike, squares_of, Table(rows)), {"what": "even"})
            self.assertEqual(fields_of(self, Unlike, is_squares, Table(rows), None), {"what": "even"})
        for rows in ([[1, 2, 3], [2, 5, 6]], [[1], [2]]):
            self.assertEqual(fields_of(self, Unlike, squares_of, Table(rows)), {"what": "sizes"})


class IsSquares(unittest.TestCase):
    def test_changed_in_one_thing(self):
        for rows in ([[2, 1], [1, 3]], [[1, 2], [2, 4]], [[1, 2], [2, 3]], [[0, 0], [0, 0]], [[-1]], [[(1, 2)]],
                     [[2, 1, 0], [1, 2, 1], [0, 1, 2]], [[0, 1], [1, 0]]):
            table = Table(rows)
            hold_judge(self, is_squares, (table,), squares_of(table), lambda value: is_right(table, value))

    def test_other_right_ones(self):
        table = Table([[2, 0], [0, 2]])
        self.assertIs(is_squares(table, Squares((1, 1), ((1, 1), (1, -1)))), True)
        self.assertIs(is_squares(table, Squares([2, 2], [(1, 0), (0, 1)])), True)
        self.assertIs(is_squares(table, Squares((1, 1, 1, 1), ((1, 0), (0, 1), (1, 0), (0, 1)))), True)
        self.assertIs(is_squares(table, Squares((2, 2, 5), ((1, 0), (0, 1), (0, 0)))), True)
        self.assertIs(is_squares(table, Squares((2, 2), ([1, 0], (0, 1)))), False)
        self.assertIs(is_squares(table, Squares((2, 2, 0), ((1, 0), (0, 1), (1, 1)))), False)
        self.assertIs(is_squares(table, Squares((3, 2, -1), ((1, 0), (0, 1), (1, 0)))), False)
        self.assertIs(is_squares(table, BelowNought((1, 0), 2)), False)
        low = Table([[1, 2], [2, 1]])
        self.assertIs(is_squares(low, BelowNought((3, -3), -18)), True)
        self.assertIs(is_squares(low, BelowNought((3, -3), (-36, 2))), True)
        self.assertIs(is_squares(low, BelowNought((3, -3), -17)), False)
        self.assertIs(is_squares(low, BelowNought((1, 1), 6)), False)
        self.assertIs(is_squares(Table([[0]]), Squares((), ())), True)
        self.assertIs(is_squares(Table([[1]]), Squares((), ())), False)
        self.assertIs(is_squares(Table([[1]]), Squares((), ((),))), False)
        self.assertIs(is_squares(Table([[0]]), BelowNought((1,), 0)), False)


class Kept(unittest.TestCase):
    def test_keep_what_they_are_given(self):
        inner = [1, 2]
        row = [inner, 3]
        for made in (Answer(row), NoAnswer(row), Squares(row, row), BelowNought(row, row)):
            for value in vars(made).values():
                self.assertIs(type(value), tuple)
                self.assertIs(value[0], inner)
            self.assertTrue(made == made)
        self.assertEqual(list(vars(Squares(1, 2))), ["weights", "rows"])
        self.assertEqual(list(vars(BelowNought(1, 2))), ["row", "number"])
        self.assertEqual(list(vars(Answer(1))) + list(vars(NoAnswer(1))), ["row", "row"])
        self.assertFalse(Answer((1,)) == Answer((1,)))
        self.assertFalse(NoAnswer((1,)) == NoAnswer((1,)))
        self.assertFalse(Squares((), ()) == Squares((), ()))
        self.assertFalse(BelowNought((1,), 1) == BelowNought((1,), 1))


if __name__ == "__main__":
    unittest.main()
