"""Promises [22], [23], [26], [27] and [28]: one number on a list, costs, lost looks."""

import unittest
from fractions import Fraction
from itertools import combinations, product

from bestlooks.errors import BadRow
from bestlooks.lists import Best, Lost, best_for, is_best_for, is_lost, lost, priced
from bestlooks.looks import Curve, Design, Hidden, Rows, spread_of, table_of
from bestlooks.polys import Poly
from tests.judging import ANYTHING, Numbers, dotted, fr, frs, frss, hold_judge, is_judged, is_judged_row, is_pair
from tests.judging import is_pair_row, pair_of, pairs_of, rank_by_hand, solve_by_hand, spread_by_hand, table_by_hand
from tests.judging import variants
from tests.values import NO_RATIOS, expect

LIST = Rows([[1, 0], [0, 1], [1, 1], [1, -1], [2, 0], [0, 0], [-1, -1]])
FLAT = Rows([[1, 1, 0], [2, 2, 0], [1, 0, 0], [0, 0, 0]])
BAD_ROWS = ((), (1,), (1, 2, 3), None, 5, "12", [1, None], {0: 1, 1: 2}, ((1, 0), 1), [[], 1], Rows([[1, 2]]))


def chebyshev_rows(degree, many):
    """Rows of the powers at evenly spaced places from -1 to 1."""
    places = [Fraction(2 * k, many - 1) - 1 for k in range(many)]
    return [pairs_of(place ** power for power in range(degree + 1)) for place in places]


def size_by_hand(rows, c):
    """The size of c: the greatest z . c over all corners of the body of the rows z, for rows that span all."""
    rows, c = frss(rows), frs(c)
    best = None
    for chosen in combinations(rows, len(c)):
        if rank_by_hand(chosen) < len(c):
            continue
        for signs in product((1, -1), repeat=len(c)):
            z = solve_by_hand(chosen, [Fraction(sign) for sign in signs])
            if all(abs(dotted(z, row)) <= 1 for row in rows):
                number = dotted(z, c)
                best = number if best is None else max(best, number)
    return best


def is_right(rows, c, told):
    """What [23] says of a told value, by sums of the test's own."""
    lines, c = frss(rows.rows), frs(c)
    if type(told) is Hidden:
        if not is_judged_row(told.z, len(c)):
            return False
        z = frs(told.z)
        return all(dotted(z, line) == 0 for line in lines) and dotted(z, c) == 1
    if type(told) is not Best or not is_judged(told.size) or fr(told.size) < 0 or type(told.design) is not Design:
        return False
    places = frs(told.design.places)
    if len(places) > len(c) or any(p.denominator != 1 or not 0 <= p < len(lines) for p in places):
        return False
    if not is_judged_row(told.z, len(c)):
        return False
    z = frs(told.z)
    if any(abs(dotted(z, line)) > 1 for line in lines) or dotted(z, c) != fr(told.size):
        return False
    table = table_by_hand([lines[int(p)] for p in places], frs(told.design.shares))
    return spread_by_hand(table, c) == fr(told.size) ** 2


def least_loss(rows, c):
    """The least number of places without which c is no sum of the rows left, by trying all losses."""
    lines, c = frss(rows.rows), frs(c)
    if all(item == 0 for item in c):
        return None
    for many in range(len(lines) + 1):
        for gone in combinations(range(len(lines)), many):
            left = [line for k, line in enumerate(lines) if k not in gone]
            if rank_by_hand(left) < rank_by_hand(left + [c]):
                return many
    raise AssertionError("no loss hides it")


def is_right_loss(rows, c, least, told):
    """What [27] says of a told value, least being the least number of places."""
    if least is None:
        return told is None
    if type(told) is not Lost or type(told.many) is not int or told.many != least:
        return False
    indices = told.indices
    if not isinstance(indices, tuple) or len(indices) != least or any(type(k) is not int for k in indices):
        return False
    if list(indices) != sorted(set(indices)) or any(not 0 <= k < len(rows.rows) for k in indices):
        return False
    if not is_judged_row(told.z, len(c)):
        return False
    z = frs(told.z)
    if any(dotted(z, line) != 0 for k, line in enumerate(frss(rows.rows)) if k not in indices):
        return False
    return dotted(z, frs(c)) != 0


class BestFor(unittest.TestCase):
    def holds(self, rows, c, size=None):
        found = best_for(rows, c)
        self.assertTrue(is_right(rows, c, found), (rows.rows, c, vars(found)))
        if type(found) is Best:
            self.assertTrue(is_pair(found.size) and is_pair_row(found.z, len(c)))
            spread = spread_of(rows, found.design, c)
            self.assertEqual(fr(spread), fr(found.size) ** 2)
        else:
            self.assertTrue(is_pair_row(found.z, len(c)))
        self.assertIs(is_best_for(rows, c, found), True)
        if size is not None:
            self.assertEqual(found.size, size)
        return found

    def test_ordinary(self):
        self.holds(LIST, (1, 0), (1, 2))
        self.holds(LIST, (0, 1), (1, 1))
        self.holds(Rows([[1, 0], [0, 1]]), (1, 1), (2, 1))
        self.holds(Rows([[1, 0], [0, 1]]), ((-1, 2), [1, 3]), (5, 6))
        self.holds(Rows([[1, 0], [0, 1], [1, 1]]), (1, 1), (1, 1))
        self.holds(Rows([[(1, 3)]]), [2], (6, 1))

    def test_rows_twice_turned_about_of_zeros_doubled(self):
        self.holds(Rows([[1, 2], [1, 2], [-1, -2], [0, 0], [2, 4]]), (1, 2), (1, 2))
        self.holds(Rows([[1, 2], [1, 2], [3, 1], [3, 1]]), (4, 3), (2, 1))
        self.holds(Rows([[1, 2], [-1, -2], [3, 1], [-3, -1], [0, 0]]), (2, -1), (2, 1))
        self.holds(Rows([[0, 0], [0, 0], [1, 1]]), (5, 5), (5, 1))

    def test_zeros(self):
        for rows in (LIST, Rows([[0, 0]]), Rows([[0, 0], [1, 1]])):
            found = self.holds(rows, (0, 0), (0, 1))
            self.assertTrue(len(found.design.places) <= 2)

    def test_hidden(self):
        self.assertIs(type(self.holds(FLAT, (0, 0, 1))), Hidden)
        self.assertIs(type(self.holds(FLAT, (1, 2, (1, 10 ** 12)))), Hidden)
        self.assertIs(type(self.holds(FLAT, (1, 2, 0))), Best)
        self.assertIs(type(self.holds(Rows([[0]]), (1,))), Hidden)

    def test_sizes_known_ahead(self):
        # The value at 2 and the last number, told by places among which the best ones are.
        self.holds(Rows(chebyshev_rows(2, 3)), (1, 2, 4), (7, 1))
        self.holds(Rows(chebyshev_rows(2, 9)), (1, 2, 4), (7, 1))
        self.holds(Rows(chebyshev_rows(2, 9)), (0, 0, 1), (2, 1))
        self.holds(Rows(chebyshev_rows(2, 9)), (0, 1, 2), (4, 1))
        self.holds(Rows(chebyshev_rows(3, 5)), (1, 2, 4, 8), (26, 1))
        self.holds(Rows(chebyshev_rows(3, 17)), (0, 0, 0, 1), (4, 1))
        self.holds(Rows(chebyshev_rows(3, 17)), (0, 1, 2, 3), (9, 1))

    def test_many_by_all_corners(self):
        numbers = Numbers(90)
        for _ in range(60):
            k = numbers.between(1, 3)
            rows = numbers.rows(numbers.between(k, 7), k, 4, 2)
            if rank_by_hand(frss(rows)) < k:
                continue
            c = numbers.row(k, 4, 2)
            self.holds(Rows(rows), c, pair_of(size_by_hand(rows, c)))

    def test_many_of_low_rank(self):
        numbers = Numbers(91)
        kinds = {Best: 0, Hidden: 0}
        for _ in range(60):
            lines, more = frss(numbers.rows(numbers.between(1, 8), 2)), frss(numbers.rows(2, 4))
            rows = Rows([pairs_of(dotted(line, column) for column in zip(*more)) for line in lines])
            c = numbers.row(4)
            if numbers.below(3):
                factors = frs(numbers.row(len(lines)))
                c = pairs_of(dotted(factors, column) for column in zip(*frss(rows.rows)))
            kinds[type(self.holds(rows, c))] += 1
        self.assertTrue(min(kinds.values()) > 5, kinds)

    def test_sizes(self):
        numbers = Numbers(92)
        for k in (1, 2, 3, 4):
            self.holds(Rows([[numbers.long() for _ in range(k)] for _ in range(20)]), [numbers.long() for _ in range(k)])
            self.holds(Rows(numbers.rows(20, k)), numbers.row(k))

    def test_bad_number(self):
        for c in BAD_ROWS:
            expect(self, BadRow, {"row": c}, best_for, LIST, c)
            expect(self, BadRow, {"row": c}, is_best_for, LIST, c, Hidden((0, 1)))
        for value in NO_RATIOS:
            c = [1, value]
            expect(self, BadRow, {"row": c}, best_for, LIST, c)
            expect(self, BadRow, {"row": c}, is_best_for, LIST, c, None)


class IsBestFor(unittest.TestCase):
    CASES = ((LIST, (1, 3)), (LIST, (0, 0)), (FLAT, (0, 0, 1)), (FLAT, (1, 2, 0)), (Rows(chebyshev_rows(2, 3)), (1, 2, 4)))

    def test_changed_in_one_thing(self):
        for rows, c in self.CASES:
            told = best_for(rows, c)
            hold_judge(self, is_best_for, (rows, c), told, lambda value: is_right(rows, c, value))

    def test_others(self):
        rows, c = Rows([[1, 0], [0, 1], [1, 1], [2, 2]]), (1, 1)
        design = Design((3,), (1,))
        for told, right in (
                (Best((1, 2), design, ((1, 4), (1, 4))), True), (Best((2, 4), design, [0, (1, 2)]), True),
                (Best((-1, 2), design, ((-1, 4), (-1, 4))), False), (Best((1, 2), design, (1, (-1, 2))), True),
                (Best((1, 2), design, ((3, 2), -1)), False), (Best(1, Design((2,), (1,)), (1, 0)), False),
                (Best((1, 2), Design((2,), (1,)), ((1, 4), (1, 4))), False),
                (Best((1, 2), Design((4,), (1,)), ((1, 4), (1, 4))), False),
                (Best((1, 2), Design(((1, 2),), (1,)), ((1, 4), (1, 4))), False),
                (Best((1, 2), (3,), ((1, 4), (1, 4))), False), (Best((1, 2), None, None), False),
                (Best((1, 2), design, ((1, 4), [1, 4])), False), (Hidden((1, 0)), False)):
            self.assertIs(is_right(rows, c, told), right, vars(told))
            self.assertIs(is_best_for(rows, c, told), right, vars(told))

    def test_places_at_most_as_many_as_numbers(self):
        rows, c = Rows([[1, 0], [1, 0], [0, 1]]), (1, 1)
        self.assertIs(is_best_for(rows, c, Best(2, Design((0, 2), ((1, 2), (1, 2))), (1, 1))), True)
        self.assertIs(is_best_for(rows, c, Best(2, Design((0, 1, 2), ((1, 4), (1, 4), (1, 2))), (1, 1))), False)
        self.assertIs(is_best_for(rows, (0, 0), Best(0, Design((0, 1), ((1, 2), (1, 2))), (0, 0))), True)
        self.assertIs(is_best_for(rows, (0, 0), Best(0, Design((0, 1, 2), ((1, 4), (1, 4), (1, 2))), (0, 0))), False)
        self.assertIs(is_best_for(rows, (0, 0), Best(0, Design((0,), (1,)), (1, (-1, 2)))), True)
        self.assertIs(is_best_for(rows, (0, 0), Best(0, Design((0,), (1,)), (2, 0))), False)
        self.assertIs(is_best_for(rows, (1, 0), Best(0, Design((0,), (1,)), (0, 0))), False)


class Priced(unittest.TestCase):
    def test_by_hand(self):
        rows = Rows([[1, 2], [3, 4], [(1, 2), 0]])
        costs = [2, (1, 3), [3, 2]]
        found = priced(rows, costs)
        self.assertIs(type(found), Rows)
        self.assertEqual(found.rows, (((1, 2), (1, 1)), ((9, 1), (12, 1)), ((1, 3), (0, 1))))
        self.assertEqual(costs, [2, (1, 3), [3, 2]])
        self.assertEqual(priced(rows, (1, 1, (5, 5))).rows, rows.rows)

    def test_the_same_table_for_money(self):
        numbers = Numbers(93)
        rows = Rows([[numbers.long() for _ in range(4)] for _ in range(20)])
        costs = [(abs(top), bottom) for top, bottom in [numbers.long() for _ in range(20)]]
        found = priced(rows, costs)
        design = Design(list(range(20)), [(1, 20)] * 20)
        looks = [Fraction(1, 20) / fr(cost) ** 2 for cost in costs]
        self.assertEqual(table_of(found, design).rows,
                         tuple(pairs_of(row) for row in table_by_hand(frss(rows.rows), looks)))

    def test_bad_costs(self):
        rows = Rows([[1, 2], [3, 4]])
        for costs in ((), (1,), (1, 2, 3), (1, 0), (0, 1), (-1, 1), (1, (-1, 2)), (1, (0, 5)), None, 3, "12", [1, None],
                      {0: 1, 1: 2}, ((1, 0), 1)):
            expect(self, BadRow, {"row": costs}, priced, rows, costs)
        for value in NO_RATIOS:
            costs = [value, 1]
            expect(self, BadRow, {"row": costs}, priced, rows, costs)


class LostLooks(unittest.TestCase):
    def holds(self, rows, c):
        found = lost(rows, c)
        least = least_loss(rows, c)
        self.assertTrue(is_right_loss(rows, c, least, found), (rows.rows, c, least, found and vars(found)))
        self.assertIs(is_lost(rows, c, found), True)
        if found is not None:
            self.assertTrue(is_pair_row(found.z, len(c)))
        return found

    def test_ordinary(self):
        self.assertEqual(self.holds(Rows([[1, 0], [0, 1], [1, 1]]), (1, 0)).many, 2)
        self.assertEqual(self.holds(Rows([[1, 0], [0, 1]]), (1, 0)).indices, (0,))
        self.assertEqual(self.holds(Rows([[1, 0], [1, 0], [2, 0], [0, 1]]), (3, 0)).indices, (0, 1, 2))
        self.assertEqual(self.holds(LIST, (1, 1)).many, 4)
        self.assertEqual(self.holds(Rows([[5]]), (1,)).many, 1)

    def test_zeros_and_hidden(self):
        self.assertIs(self.holds(LIST, (0, 0)), None)
        self.assertIs(self.holds(Rows([[0, 0]]), (0, (0, 7))), None)
        found = self.holds(FLAT, (0, 0, 1))
        self.assertEqual((found.many, found.indices), (0, ()))
        self.assertEqual(self.holds(Rows([[0, 0]]), (0, 1)).many, 0)
        self.holds(FLAT, (1, 2, 0))
        self.holds(FLAT, (1, 1, 0))

    def test_many_by_trying_all(self):
        numbers = Numbers(94)
        for _ in range(40):
            k = numbers.between(1, 4)
            rows = [[numbers.between(-1, 1) for _ in range(k)] for _ in range(numbers.between(1, 7))]
            self.holds(Rows(rows), [numbers.between(-1, 1) for _ in range(k)])

    def test_sizes(self):
        numbers = Numbers(95)
        rows = Rows([[numbers.between(-1, 1) for _ in range(4)] for _ in range(12)])
        found = lost(rows, (1, 1, 0, 1))
        self.assertIs(is_lost(rows, (1, 1, 0, 1), found), True)
        rows = Rows([[numbers.long() for _ in range(4)] for _ in range(12)])
        c = [numbers.long() for _ in range(4)]
        found = lost(rows, c)
        self.assertEqual(found.many, 9)
        self.assertTrue(is_right_loss(rows, c, 9, found))
        self.assertIs(is_lost(rows, c, found), True)

    def test_bad_number(self):
        for c in BAD_ROWS:
            expect(self, BadRow, {"row": c}, lost, LIST, c)
            expect(self, BadRow, {"row": c}, is_lost, LIST, c, None)
        for value in NO_RATIOS:
            c = [1, value]
            expect(self, BadRow, {"row": c}, lost, LIST, c)
            expect(self, BadRow, {"row": c}, is_lost, LIST, c, None)


class IsLost(unittest.TestCase):
    def test_changed_in_one_thing(self):
        for rows, c in ((Rows([[1, 0], [0, 1], [1, 1]]), (1, 0)), (FLAT, (0, 0, 1)), (FLAT, (1, 2, 0)),
                        (Rows([[1, 0], [1, 0], [2, 0], [0, 1]]), (3, 0))):
            least = least_loss(rows, c)
            told = lost(rows, c)
            reference = (lambda value: is_right_loss(rows, c, least, value))
            self.assertIs(is_lost(rows, c, Lost(told.many, told.indices, pairs_of(frs(told.z)))), True)
            for part in ("many", "indices", "z"):
                self.hold_variants(rows, c, told, part, reference)

    def hold_variants(self, rows, c, told, part, reference):
        for value in list(variants(getattr(told, part))) + list(ANYTHING):
            fields = dict(vars(told), **{part: value})
            changed = Lost(fields["many"], fields["indices"], fields["z"])
            self.assertIs(is_lost(rows, c, changed), reference(changed), fields)
        for value in ANYTHING:
            self.assertIs(is_lost(rows, c, value), False)

    def test_others(self):
        rows, c = Rows([[1, 0], [0, 1], [1, 1], [0, 0]]), (1, 0)
        for told, right in (
                (Lost(2, (0, 2), (1, 0)), True), (Lost(2, [0, 2], [(-7, 3), 0]), True), (Lost(2, (2, 0), (1, 0)), False),
                (Lost(2, (1, 2), (1, 0)), False), (Lost(2, (0, 1), (1, -1)), True), (Lost(2, (0, 2), (0, 1)), False),
                (Lost(3, (0, 1, 2), (1, 0)), False), (Lost(2, (0, 2), (0, 0)), False), (Lost(1, (0,), (1, 0)), False),
                (Lost(2, (0, 0), (1, 0)), False), (Lost(2, (0, 2, 3), (1, 0)), False), (Lost(2, (-1, 2), (1, 0)), False),
                (Lost((2, 1), (0, 2), (1, 0)), False), (Lost(2, ((0, 1), 2), (1, 0)), False),
                (Lost(True, (0, 2), (1, 0)), False), (Lost(2, (False, 2), (1, 0)), False), (None, False)):
            self.assertIs(is_right_loss(rows, c, 2, told), right, told and vars(told))
            self.assertIs(is_lost(rows, c, told), right, told and vars(told))
        self.assertIs(is_lost(rows, (0, 0), None), True)
        self.assertIs(is_lost(rows, (0, 0), Lost(0, (), (1, 0))), False)
        self.assertIs(is_lost(rows, (0, 0), False), False)
        self.assertIs(is_lost(rows, (0, 0), ()), False)


class Kept(unittest.TestCase):
    def test_keep_what_they_are_given(self):
        inner = [1, 2]
        row = [inner, 3]
        for made, names in ((Best(row, row, row), "size design z"), (Lost(row, row, row), "many indices z")):
            self.assertEqual(list(vars(made)), names.split())
            for value in vars(made).values():
                self.assertIs(type(value), tuple)
                self.assertIs(value[0], inner)
            self.assertTrue(made == made)
        self.assertFalse(Best(1, None, (1,)) == Best(1, None, (1,)))
        self.assertFalse(Lost(0, (), (1,)) == Lost(0, (), (1,)))


class Facts(unittest.TestCase):
    def test_no_design_is_better(self):
        # [22]: for all designs that tell c the spread is at least size times size.
        numbers = Numbers(96)
        for _ in range(20):
            rows = Rows(numbers.rows(6, 2, 4, 2))
            c = numbers.row(2, 4, 2)
            found = best_for(rows, c)
            if type(found) is Hidden:
                continue
            for _ in range(10):
                places = sorted({numbers.below(6) for _ in range(4)})
                parts = [numbers.between(1, 9) for _ in places]
                spread = spread_of(rows, Design(places, [(part, sum(parts)) for part in parts]), c)
                self.assertTrue(spread is None or fr(spread) >= fr(found.size) ** 2)

    def test_curves_are_no_lists(self):
        # The rows of a curve at some places are a list of their own.
        curve = Curve(-1, 1, (Poly((1,)), Poly((0, 1)), Poly((0, 0, 1))))
        design = best_for(Rows(chebyshev_rows(2, 3)), (1, 2, 4)).design
        on_curve = Design([place - 1 for place, _ in design.places], design.shares)
        self.assertEqual(spread_of(curve, on_curve, (1, 2, 4)), (49, 1))


if __name__ == "__main__":
    unittest.main()
