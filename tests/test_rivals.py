"""Promises [57] to [60]: telling a rival from what is there."""

import unittest
from fractions import Fraction

from bestlooks.errors import BadRow, Unlike
from bestlooks.looks import Design, Rows
from bestlooks.rivals import Parted, best_parting, is_best_parting, parting
from tests.judging import ANYTHING, Numbers, dotted, fr, frs, frss, hold_judge, in_other_terms, is_judged, is_judged_row
from tests.judging import is_pair, is_pair_row, pair_of, pairs_of, solve_by_hand, table_by_hand
from tests.papers import is_design_on
from tests.values import NO_RATIOS, copied, expect, fields_of

BAD_VALUES = ((), (1,), (1, 2), (1, 2, 3, 4), None, 5, "123", {0: 1, 1: 2, 2: 3}, (1, 2, None), ((1, 2, 3),), {1, 2, 3})


def parting_by_hand(rows, values, design):
    """The least sum of share * (g - r . t) ** 2, by the t that solves for where no step makes it less."""
    lines = [frs(rows.rows[place[0]]) for place in design.places]
    told, shares = [fr(values[place[0]]) for place in design.places], frs(design.shares)
    table = table_by_hand(lines, shares)
    right = [sum(part * line[k] * item for part, line, item in zip(shares, lines, told)) for k in range(len(table))]
    t = solve_by_hand(table, right)
    return sum(part * (item - dotted(line, t)) ** 2 for part, line, item in zip(shares, lines, told))


def is_right(rows, values, told):
    """What [59] says of a told value, by sums of the test's own."""
    if type(told) is not Parted or not is_judged(told.miss) or not is_design_on(rows, told.design):
        return False
    many = len(rows.rows[0])
    if len(told.design.places) > many + 1 or not is_judged_row(told.t, many):
        return False
    miss, t = fr(told.miss), frs(told.t)
    if any(abs(fr(item) - dotted(row, t)) > miss for item, row in zip(values, frss(rows.rows))):
        return False
    return parting_by_hand(rows, values, told.design) == miss * miss


def some_design(numbers, many):
    places = sorted({numbers.below(many) for _ in range(numbers.between(1, many))})
    parts = [numbers.between(1, 9) for _ in places]
    return Design(places, [(part, sum(parts)) for part in parts])


class Partings(unittest.TestCase):
    def test_by_hand(self):
        flat = Rows([[1], [1], [1]])
        half = ((1, 2), (1, 2))
        self.assertEqual(parting(flat, (0, 2, 5), Design((0, 1), half)), (1, 1))
        self.assertEqual(parting(flat, [0, (4, 2), 5], Design((0, 2), half)), (25, 4))
        self.assertEqual(parting(flat, (0, 2, 5), Design((1,), (1,))), (0, 1))
        line = Rows([[1, 0], [1, 1], [1, 2]])
        self.assertEqual(parting(line, (0, 1, 0), Design((0, 1, 2), ((1, 4), (1, 2), (1, 4)))), (1, 4))
        self.assertEqual(parting(line, (5, 7, 9), Design((0, 1, 2), ((1, 4), (1, 2), (1, 4)))), (0, 1))
        self.assertEqual(parting(Rows([[0], [0]]), (3, 4), Design((0, 1), half)), (25, 2))

    def test_drawn(self):
        numbers = Numbers(330)
        for _ in range(60):
            many = numbers.between(1, 8)
            rows = Rows(numbers.rows(many, numbers.between(1, 4)))
            values = numbers.row(many)
            design = some_design(numbers, many)
            before = copied(values)
            found = parting(rows, values, design)
            self.assertEqual(copied(values), before)
            self.assertTrue(is_pair(found))
            self.assertEqual(found, pair_of(parting_by_hand(rows, values, design)))

    def test_values_that_it_has_itself(self):
        numbers = Numbers(331)
        for _ in range(20):
            rows = Rows(numbers.rows(6, 3))
            t = frs(numbers.row(3))
            values = pairs_of(dotted(row, t) for row in frss(rows.rows))
            self.assertEqual(parting(rows, values, some_design(numbers, 6)), (0, 1))

    def test_errors_in_their_order(self):
        rows = Rows([[1, 0], [1, 1], [1, 2]])
        for places in ((3,), (-1, 0), (0, 1, 4), ((1, 2),)):
            design = Design(places, [(1, len(places))] * len(places))
            for values in ((1, 2, 3), None, (1,)):
                self.assertEqual(fields_of(self, Unlike, parting, rows, values, design), {"what": "place"})
        design = Design((0, 2), ((1, 2), (1, 2)))
        for values in BAD_VALUES:
            expect(self, BadRow, {"row": values}, parting, rows, values, design)
            expect(self, BadRow, {"row": values}, best_parting, rows, values)
            expect(self, BadRow, {"row": values}, is_best_parting, rows, values, None)
        for value in NO_RATIOS:
            values = [1, value, 3]
            expect(self, BadRow, {"row": values}, parting, rows, values, design)
            expect(self, BadRow, {"row": values}, best_parting, rows, values)

    def test_sizes(self):
        numbers = Numbers(332)
        rows = Rows([[numbers.long() for _ in range(4)] for _ in range(20)])
        values = [numbers.long() for _ in range(20)]
        parts = [numbers.between(1, 9) for _ in range(20)]
        design = Design(list(range(20)), [(part, sum(parts)) for part in parts])
        self.assertEqual(parting(rows, values, design), pair_of(parting_by_hand(rows, values, design)))


class BestPartings(unittest.TestCase):
    def holds(self, rows, values, miss=None):
        before = copied(values)
        found = best_parting(rows, values)
        self.assertEqual(copied(values), before)
        self.assertTrue(is_right(rows, values, found), (rows.rows, values, vars(found)))
        self.assertIs(is_best_parting(rows, values, found), True)
        self.assertTrue(is_pair(found.miss) and is_pair_row(found.t, len(rows.rows[0])))
        if miss is not None:
            self.assertEqual(fr(found.miss), miss)
        return found

    def test_known(self):
        self.holds(Rows([[1], [1], [1]]), (0, 2, 5), Fraction(5, 2))
        self.holds(Rows([[1], [1], [1]]), [(0, 4), [4, 2], 5], Fraction(5, 2))
        self.holds(Rows([[1, 0], [1, 1], [1, 2]]), (0, 1, 0), Fraction(1, 2))
        self.holds(Rows([[0]]), (7,), 7)
        self.holds(Rows([[0, 0], [0, 0]]), (3, (-9, 2)), Fraction(9, 2))
        self.holds(Rows([[1, 0], [0, 1]]), (3, -4), 0)
        self.holds(Rows([[3]]), (5,), 0)

    def test_bent_to_and_fro(self):
        # The values of a line, but for a known miss that changes its sign often enough: no line comes nearer.
        numbers = Numbers(333)
        for k in (1, 2, 3):
            for _ in range(8):
                places = sorted({numbers.between(-9, 9) for _ in range(12)})
                rows = Rows([[place ** power for power in range(k)] for place in places])
                t = frs(numbers.row(k))
                miss = Fraction(numbers.between(0, 9), 7)
                values = [dotted(row, t) + (-1) ** i * miss for i, row in enumerate(frss(rows.rows))]
                if len(places) > k:
                    self.holds(rows, pairs_of(values), miss)
                    little = values[:]
                    little[0] -= miss / 2
                    self.holds(rows, pairs_of(little))

    def test_no_miss(self):
        numbers = Numbers(334)
        for _ in range(20):
            rows = Rows(numbers.rows(numbers.between(1, 16), numbers.between(1, 3)))
            t = frs(numbers.row(len(rows.rows[0])))
            self.holds(rows, pairs_of(dotted(row, t) for row in frss(rows.rows)), 0)

    def test_no_design_parts_more(self):
        numbers = Numbers(335)
        for turn in range(40):
            many = numbers.between(1, 16)
            k = numbers.between(1, 3)
            rows = Rows([[numbers.between(-1, 1) for _ in range(k)] for _ in range(many)] if turn % 2 else numbers.rows(many, k))
            values = numbers.row(many)
            miss = fr(self.holds(rows, values).miss)
            for _ in range(5):
                self.assertTrue(parting_by_hand(rows, values, some_design(numbers, many)) <= miss * miss)

    def test_sizes(self):
        numbers = Numbers(336)
        for k in (1, 3):
            rows = Rows([[numbers.long() for _ in range(k)] for _ in range(16)])
            self.holds(rows, [numbers.long() for _ in range(16)])


class IsBestParting(unittest.TestCase):
    CASES = ((Rows([[1], [1], [1]]), (0, 2, 5)), (Rows([[1, 0], [1, 1], [1, 2]]), (0, 1, 0)), (Rows([[1, 0], [0, 1]]), (3, -4)),
             (Rows([[1, 0], [1, 1], [1, 2], [1, 4]]), (0, 1, (1, 3), -2)), (Rows([[0]]), (7,)))

    def test_changed_in_one_thing(self):
        for rows, values in self.CASES:
            hold_judge(self, is_best_parting, (rows, values), best_parting(rows, values),
                       lambda value: is_right(rows, values, value), (Parted(None, None, None),))

    def judged(self, rows, values, told, right):
        self.assertIs(is_right(rows, values, told), right, vars(told))
        self.assertIs(is_best_parting(rows, values, told), right, vars(told))

    def test_by_hand(self):
        rows, values = Rows([[1], [1], [1]]), (0, 2, 5)
        design = Design((0, 2), ((1, 2), (1, 2)))
        half = (5, 2)
        little = pair_of(Fraction(5, 2) - Fraction(1, 10 ** 12))
        self.judged(rows, values, Parted(half, design, (half,)), True)
        self.judged(rows, values, Parted([5, 2], design, [half]), True)
        self.judged(rows, values, in_other_terms(Parted(half, design, (half,))), True)
        for told in (Parted(little, design, (half,)), Parted((3, 1), design, (half,)), Parted(half, design, (little,)),
                     Parted(half, design, ([5, 2],)), Parted(half, design, (half, half)), Parted((-5, 2), design, (half,)),
                     Parted(half, Design((0, 1), ((1, 2), (1, 2))), (half,)), Parted(half, None, (half,)),
                     Parted(half, Design((0, 2), ((1, 3), (2, 3))), (half,)), Parted(half, Design((0, 3), design.shares), (half,)),
                     Parted(half, Design((0, 1, 2), ((1, 2), (1, 10 ** 9), (10 ** 9 - 2, 2 * 10 ** 9))), (half,))):
            self.judged(rows, values, told, False)

    def test_as_many_places(self):
        # k + 1 places at most, though more would part as much.
        rows, values = Rows([[1], [1], [1], [1]]), (0, 2, 0, 2)
        halves = [((0, 1), ((1, 2), (1, 2))), ((0, 3), ((1, 2), (1, 2))), ((1, 2), ((1, 2), (1, 2)))]
        for places, shares in halves:
            self.judged(rows, values, Parted(1, Design(places, shares), (1,)), True)
        more = Design((0, 1, 2), ((1, 4), (1, 2), (1, 4)))
        self.assertEqual(parting(rows, values, more), (1, 1))
        self.judged(rows, values, Parted(1, more, (1,)), False)
        # Where nothing is missed, any design of so few places is right.
        rows, values = Rows([[1], [2], [3]]), (2, 4, 6)
        self.judged(rows, values, Parted(0, Design((2,), (1,)), (2,)), True)
        self.judged(rows, values, Parted(0, Design((0, 1), ((1, 9), (8, 9))), (2,)), True)
        self.judged(rows, values, Parted(0, Design((0, 1, 2), ((1, 3),) * 3), (2,)), False)

    def test_of_other_kinds(self):
        for value in ANYTHING:
            self.assertIs(is_best_parting(Rows([[1], [2]]), (1, 2), value), False)


class Kept(unittest.TestCase):
    def test_keep_what_they_are_given(self):
        inner = [1, 2]
        row = [inner, 3]
        made = Parted(row, row, row)
        self.assertEqual(list(vars(made)), ["miss", "design", "t"])
        for value in vars(made).values():
            self.assertIs(type(value), tuple)
            self.assertIs(value[0], inner)
        self.assertTrue(made == made)


if __name__ == "__main__":
    unittest.main()
