"""Promises [17] to [19]: designs compared."""

import unittest
from fractions import Fraction

from bestlooks.errors import BadNumber, Unlike
from bestlooks.looks import Curve, Design, spread_of, table_of
from bestlooks.orders import NoRatio, NoWorse, RatioTold, Worse, greatest_ratio, is_order, is_ratio_told, no_worse
from bestlooks.polys import Poly
from bestlooks.tables import BelowNought, Squares, Table
from tests.judging import Numbers, fr, frs, frss, hold_judge, is_judged, is_judged_row, is_pair, is_pair_row, pair_of
from tests.judging import pairs_of, spread_by_hand, table_by_hand
from tests.test_signs import BAD_BITS
from tests.test_tables import is_right as are_right_squares
from tests.test_tables import unit
from tests.values import expect, fields_of

LITTLE = (1, 10 ** 12)


def made_of(rows, weights=None):
    """The Table that rows make, each with its weight."""
    lines = frss(rows)
    return Table([pairs_of(row) for row in table_by_hand(lines, weights or [1] * len(lines))])


def spread(table, c):
    return spread_by_hand(frss(table.rows), frs(c))


def is_right_order(one, other, told):
    """What [18] says of a told value, by squares and spreads of the test's own."""
    if type(told) is NoWorse:
        return type(told.squares) is Squares and are_right_squares(one - other, told.squares)
    if type(told) is not Worse or not is_judged_row(told.number, one.height) or not is_judged(told.theirs):
        return False
    mine, theirs = spread(one, told.number), spread(other, told.number)
    if theirs is None or theirs != fr(told.theirs):
        return False
    if mine is None:
        return told.mine is None
    return is_judged(told.mine) and fr(told.mine) == mine and mine > theirs


def is_right_ratio(one, other, bits, told):
    """What [19] says of a told value, by squares and spreads of the test's own."""
    if type(told) is NoRatio:
        if not is_judged_row(told.number, one.height):
            return False
        return spread(one, told.number) is None and spread(other, told.number) is not None
    if type(told) is not RatioTold or not is_judged(told.upper) or fr(told.upper) < 0:
        return False
    upper, gap = fr(told.upper), Fraction(1, 2 ** bits)
    if (upper / gap).denominator != 1 or type(told.squares) is not Squares:
        return False
    if not are_right_squares(one * pair_of(upper) - other, told.squares):
        return False
    if upper == 0:
        return told.number is None
    if not is_judged_row(told.number, one.height):
        return False
    mine, theirs = spread(one, told.number), spread(other, told.number)
    return mine is not None and theirs is not None and mine > (upper - gap) * theirs


class NoWorseTold(unittest.TestCase):
    def holds(self, one, other, kind):
        found = no_worse(one, other)
        self.assertIs(type(found), kind, (one.rows, other.rows))
        self.assertTrue(is_right_order(one, other, found), (one.rows, other.rows, vars(found)))
        if kind is Worse:
            self.assertTrue(is_pair_row(found.number, one.height) and is_pair(found.theirs))
            self.assertTrue(found.mine is None or is_pair(found.mine))
        self.assertIs(is_order(one, other, found), True)
        return found

    def test_in_order_by_a_square(self):
        base = made_of([[2, 1], [1, 3]])
        for row in ([1, 0], [0, 1], [(1, 7), -2], [0, 0]):
            more = base + made_of([row])
            self.holds(more, base, NoWorse)
            self.holds(base, more, NoWorse if row == [0, 0] else Worse)

    def test_by_very_little(self):
        for rows in ([[2, 1], [1, 3]], [[1, 2]], [[0, 0]], [[1, 0, 0], [0, 1, 1]]):
            base = made_of(rows)
            more = base + unit(base.height) * LITTLE
            self.holds(more, base, NoWorse)
            self.holds(base, more, Worse)
            self.holds(base, base, NoWorse)

    def test_crossing(self):
        self.holds(Table([[2, 0], [0, 1]]), Table([[1, 0], [0, 2]]), Worse)
        self.holds(Table([[1, 0], [0, 2]]), Table([[2, 0], [0, 1]]), Worse)
        self.holds(Table([[1, 0], [0, 1]]), Table([[1, LITTLE], [LITTLE, 1]]), Worse)

    def test_none_where_due(self):
        found = self.holds(Table([[1, 0], [0, 0]]), Table([[1, 0], [0, 1]]), Worse)
        self.assertIs(found.mine, None)
        found = self.holds(Table([[1, 1], [1, 1]]), Table([[0, 0], [0, 1]]), Worse)
        self.assertIs(found.mine, None)
        found = self.holds(unit(2) * 0, unit(2), Worse)
        self.assertIs(found.mine, None)
        self.holds(unit(2), unit(2) * 0, NoWorse)
        self.holds(unit(2) * 0, unit(2) * 0, NoWorse)
        found = self.holds(Table([[1, 1], [1, 1]]), Table([[2, 2], [2, 2]]), Worse)
        self.assertIsNot(found.mine, None)

    def test_many(self):
        numbers = Numbers(70)
        kinds = {NoWorse: 0, Worse: 0}
        for _ in range(100):
            k = numbers.between(1, 5)
            one = made_of(numbers.rows(numbers.between(1, 5), k, 3, 2))
            other = made_of(numbers.rows(numbers.between(1, 5), k, 3, 2))
            if numbers.below(2):
                other = one - made_of(numbers.rows(1, k, 1, 1)) * (1, 50)
                if type(no_worse(other, unit(k) * 0)) is not NoWorse:
                    other = one * (1, 2)
            kind = type(no_worse(one, other))
            kinds[kind] += 1
            self.holds(one, other, kind)
        self.assertTrue(min(kinds.values()) > 20, kinds)

    def test_designs(self):
        curve = Curve(-1, 1, (Poly((1,)), Poly((0, 1))))
        wide = table_of(curve, Design((-1, 1), ((1, 2), (1, 2))))
        close = table_of(curve, Design(((-1, 2), (1, 2)), ((1, 2), (1, 2))))
        self.holds(wide, close, NoWorse)
        found = self.holds(close, wide, Worse)
        design = Design((-1, 1), ((1, 2), (1, 2)))
        self.assertEqual(spread_of(curve, design, found.number), found.theirs)

    def test_sizes(self):
        numbers = Numbers(71)
        one = made_of([[numbers.long() for _ in range(5)] for _ in range(5)])
        self.holds(one, one - made_of([[numbers.long() for _ in range(5)]]) * 0, NoWorse)
        self.holds(one, one + unit(5) * (1, 10 ** 40), Worse)
        self.holds(one + made_of([[numbers.long() for _ in range(5)]]), one, NoWorse)


class IsOrder(unittest.TestCase):
    CASES = (
        (made_of([[2, 1], [1, 3]]), made_of([[2, 1]])),
        (made_of([[2, 1]]), made_of([[2, 1], [1, 3]])),
        (Table([[2, 0], [0, 1]]), Table([[1, 0], [0, 2]])),
        (Table([[1, 1], [1, 1]]), Table([[1, 1], [1, 1]])),
        (Table([[1, 1], [1, 1]]), Table([[3, 3], [3, 3]])),
    )

    def test_changed_in_one_thing(self):
        for one, other in self.CASES:
            told = no_worse(one, other)
            hold_judge(self, is_order, (one, other), told, lambda value: is_right_order(one, other, value))

    def test_others(self):
        one, other = Table([[2, 0], [0, 1]]), Table([[1, 0], [0, 2]])
        for told, right in (
                (Worse((0, 1), 1, (1, 2)), True), (Worse((0, 3), 9, (9, 2)), True), (Worse((0, 3), 9, (18, 4)), True),
                (Worse([0, 1], 1, (1, 2)), True), (Worse((1, 0), (1, 2), 1), False), (Worse((0, 1), None, (1, 2)), False),
                (Worse((0, 1), 1, None), False), (Worse((0, 0), 0, 0), False), (Worse((0, 1), 1, [1, 2]), True),
                (Worse(([0, 1], 1), 1, (1, 2)), False), (Worse((0, True), 1, (1, 2)), False),
                (NoWorse(Squares((), ())), False), (NoWorse(BelowNought((0, 1), -1)), False)):
            # A list that is kept as a tuple is a ratio then.
            self.assertIs(is_right_order(one, other, told), right, vars(told))
            self.assertIs(is_order(one, other, told), right, vars(told))
        low = BelowNought((0, 1), -1)
        self.assertIs(is_order(one, other, low), False)

    def test_sizes_told(self):
        for one, other in ((unit(2), unit(3)), (unit(2), Table([[1, 2]])), (Table([[1], [2]]), Table([[1, 2]])),
                           (unit(1), Table([[1, 0]])), (unit(2), Table([[1], [1]]))):
            for call in (no_worse, lambda a, b: is_order(a, b, None), lambda a, b: greatest_ratio(a, b, None),
                         lambda a, b: is_ratio_told(a, b, None, None)):
                self.assertEqual(fields_of(self, Unlike, call, one, other), {"what": "sizes"})


class GreatestRatio(unittest.TestCase):
    def holds(self, one, other, bits, upper=None):
        found = greatest_ratio(one, other, bits)
        self.assertTrue(is_right_ratio(one, other, bits, found), (one.rows, other.rows, bits, vars(found)))
        if type(found) is RatioTold:
            self.assertTrue(is_pair(found.upper))
            self.assertTrue(found.number is None or is_pair_row(found.number, one.height))
        else:
            self.assertTrue(is_pair_row(found.number, one.height))
        self.assertIs(is_ratio_told(one, other, bits, found), True)
        if upper is not None:
            self.assertEqual(found.upper, upper)
        return found

    def test_multiples_of_the_gap(self):
        one = made_of([[2, 1], [1, 3]])
        for bits in (0, 1, 5, 30):
            self.holds(one, one, bits, (1, 1))
            self.holds(one, one * 7, bits, (7, 1))
            self.holds(one * 2, one, bits, (1, 2) if bits else (1, 1))
            self.holds(unit(2), Table([[1, 0], [0, 3]]), bits, (3, 1))
        self.holds(one, one * (3, 2 ** 30), 30, (3, 2 ** 30))

    def test_no_multiples(self):
        one = made_of([[2, 1], [1, 3]])
        self.holds(one * 3, one, 2, (1, 2))
        self.holds(one * 3, one, 30, pair_of(Fraction(357913942, 2 ** 30)))
        # The golden number, which is no ratio.
        self.holds(unit(2), Table([[1, 1], [1, 2]]), 0, (3, 1))
        self.holds(unit(2), Table([[1, 1], [1, 2]]), 10, (2681, 1024))
        for bits in range(13):
            self.holds(one, made_of([[1, 2], [3, 1]]), bits)
            self.holds(one, one + unit(2) * LITTLE, bits, pair_of(1 + Fraction(1, 2 ** bits)))
            self.holds(one, one - unit(2) * LITTLE, bits, (1, 1))

    def test_upper_nought(self):
        zeros = unit(2) * 0
        for one in (unit(2), zeros, Table([[1, 1], [1, 1]])):
            for bits in (0, 30):
                found = self.holds(one, zeros, bits, (0, 1))
                self.assertIs(found.number, None)
        found = self.holds(unit(2), unit(2) * LITTLE, 0, (1, 1))
        self.assertIsNot(found.number, None)

    def test_told_by_the_other_one_alone(self):
        low = Table([[1, 1], [1, 1]])
        for other in (unit(2), Table([[1, -1], [-1, 1]]), Table([[0, 0], [0, LITTLE]])):
            found = self.holds(low, other, 4)
            self.assertIs(type(found), NoRatio)
        self.assertIs(type(self.holds(unit(2) * 0, low, 4)), NoRatio)
        self.holds(low, low * (5, 2), 4, (5, 2))
        self.holds(unit(2), low, 4, (2, 1))

    def test_many(self):
        numbers = Numbers(72)
        kinds = {NoRatio: 0, RatioTold: 0}
        for _ in range(80):
            k = numbers.between(1, 4)
            one = made_of(numbers.rows(numbers.between(1, 5), k, 3, 2))
            other = made_of(numbers.rows(numbers.between(1, 4), k, 3, 2))
            kinds[type(self.holds(one, other, numbers.between(0, 30)))] += 1
        self.assertTrue(min(kinds.values()) > 10, kinds)

    def test_sizes(self):
        numbers = Numbers(73)
        curve = Curve(-1, 1, [Poly([numbers.between(-9, 9) for _ in range(7)]) for _ in range(5)])
        tables = []
        for _ in range(2):
            places = sorted({numbers.between(-1000, 1000) for _ in range(24)})
            parts = [numbers.between(1, 9) for _ in places]
            design = Design([(place, 1000) for place in places], [(part, sum(parts)) for part in parts])
            tables.append(table_of(curve, design))
        self.assertIs(type(self.holds(tables[0], tables[1], 30)), RatioTold)
        self.assertIs(type(self.holds(tables[1], tables[0], 60)), RatioTold)
        one = made_of([[numbers.long() for _ in range(3)] for _ in range(3)])
        other = made_of([[numbers.long() for _ in range(3)] for _ in range(3)])
        self.assertIs(type(self.holds(one, other, 30)), RatioTold)

    def test_long_numbers_at_size(self):
        numbers = Numbers(74)
        curve = Curve((-1, 3), (10 ** 39 + 1, 10 ** 39), [Poly([numbers.long() for _ in range(7)]) for _ in range(5)])
        tables = []
        for bottom in (10 ** 39, 3 ** 80):
            places = [(-bottom // 3 + bottom * k // 20 + numbers.between(1, 10 ** 9), bottom) for k in range(24)]
            parts = [numbers.between(1, 10 ** 9) for _ in places]
            design = Design(places, [(part, sum(parts)) for part in parts])
            tables.append(table_of(curve, design))
        for one, other in (tables, tables[::-1]):
            found = greatest_ratio(one, other, 30)
            self.assertIs(type(found), RatioTold)
            self.assertTrue(are_right_squares(one * found.upper - other, found.squares))
            mine, theirs = spread(one, found.number), spread(other, found.number)
            self.assertTrue(mine > (fr(found.upper) - Fraction(1, 2 ** 30)) * theirs)
            self.assertIs(is_ratio_told(one, other, 30, found), True)
            told = no_worse(one, other)
            self.assertTrue(is_right_order(one, other, told))
            self.assertIs(is_order(one, other, told), True)

    def test_far_apart(self):
        # Ratios from very little to very much, and rows that are nearly told alike.
        for far in (1, 12, 40):
            wide = Table([[10 ** far, 1, 0], [1, 2, 1], [0, 1, 1]])
            close = Table([[1, 1, 1], [1, 1, 1], [1, 1, 1]]) + unit(3) * (1, 10 ** far)
            for one, other in ((wide, close), (close, wide), (wide, unit(3)), (unit(3), close)):
                for bits in (0, 12, 30):
                    self.assertIs(type(self.holds(one, other, bits)), RatioTold)

    def test_bits(self):
        for bits in BAD_BITS:
            expect(self, BadNumber, {"what": "bits", "number": bits}, greatest_ratio, unit(1), unit(1), bits)
            expect(self, BadNumber, {"what": "bits", "number": bits}, is_ratio_told, unit(1), unit(1), bits, None)


class IsRatioTold(unittest.TestCase):
    CASES = (
        (made_of([[2, 1], [1, 3]]), made_of([[1, 2], [3, 1]]), 3),
        (made_of([[2, 1], [1, 3]]), made_of([[2, 1], [1, 3]]), 0),
        (unit(2), unit(2) * 0, 2),
        (Table([[1, 1], [1, 1]]), unit(2), 1),
        (Table([[1, 1], [1, 1]]), Table([[1, 1], [1, 1]]) * (1, 3), 5),
    )

    def test_changed_in_one_thing(self):
        for case in self.CASES:
            told = greatest_ratio(*case)
            hold_judge(self, is_ratio_told, case, told, lambda value: is_right_ratio(*case, value))

    def test_not_the_least_multiple(self):
        one = unit(1)
        row = ((1, 1),)
        for told, right in (
                (RatioTold(1, Squares((), ()), row), True), (RatioTold((2, 2), Squares((), ()), ((5, 7),)), True),
                (RatioTold((5, 4), Squares(((1, 4),), (row,)), row), False),
                (RatioTold((9, 8), Squares(((1, 8),), (row,)), row), False),
                (RatioTold((3, 4), Squares((), ()), row), False), (RatioTold(1, Squares((), ()), None), False),
                (RatioTold(1, Squares((), ()), (0,)), False), (RatioTold(-1, Squares((), ()), row), False),
                (RatioTold(1, BelowNought((1,), -1), row), False), (RatioTold(1, None, row), False),
                (NoRatio(row), False), (NoRatio((0,)), False)):
            self.assertIs(is_right_ratio(one, one, 2, told), right, vars(told))
            self.assertIs(is_ratio_told(one, one, 2, told), right, vars(told))
        low = BelowNought((1,), -1)
        self.assertIs(is_ratio_told(one, one * 2, 2, RatioTold(1, low, row)), False)

    def test_rows_without_a_spread(self):
        flat = Table([[1, 0], [0, 0]])
        squares = Squares((1,), ((0, 1),))
        none = Squares((), ())
        for one, other, told, right in (
                (flat, flat * 2, NoRatio((0, 1)), False), (flat, unit(2), NoRatio((0, 1)), True),
                (unit(2), flat, NoRatio((0, 1)), False), (flat, unit(2), NoRatio((1, 0)), False),
                (unit(2), flat, RatioTold(1, squares, (1, 0)), True), (unit(2), flat, RatioTold(1, squares, (0, 1)), False),
                (unit(2), flat, RatioTold(1, squares, (1, 1)), False), (flat, flat, RatioTold(1, none, (3, 0)), True),
                (flat, flat, RatioTold(1, none, (0, 3)), False), (flat * 0, flat * 0, RatioTold(0, none, None), True),
                (flat * 0, flat * 0, RatioTold(-1, none, (0, 0)), False),
                (flat * 0, flat * 0, RatioTold(1, none, (0, 0)), False)):
            self.assertIs(is_right_ratio(one, other, 3, told), right, vars(told))
            self.assertIs(is_ratio_told(one, other, 3, told), right, vars(told))


class Kept(unittest.TestCase):
    def test_keep_what_they_are_given(self):
        inner = [1, 2]
        row = [inner, 3]
        for made, names in ((NoWorse(row), "squares"), (Worse(row, row, row), "number mine theirs"),
                            (NoRatio(row), "number"), (RatioTold(row, row, row), "upper squares number")):
            self.assertEqual(list(vars(made)), names.split())
            for value in vars(made).values():
                self.assertIs(type(value), tuple)
                self.assertIs(value[0], inner)
            self.assertTrue(made == made)
        self.assertFalse(NoWorse(None) == NoWorse(None))
        self.assertFalse(Worse((1,), 1, 1) == Worse((1,), 1, 1))
        self.assertFalse(NoRatio((1,)) == NoRatio((1,)))
        self.assertFalse(RatioTold(0, None, None) == RatioTold(0, None, None))

    def test_lists_are_copied(self):
        row = [1, 2]
        made = NoRatio(row)
        row.append(3)
        self.assertEqual(made.number, (1, 2))


if __name__ == "__main__":
    unittest.main()
