"""Promises [13] and [14]: what designs and looks tell."""

import unittest
from fractions import Fraction

from bestlooks.errors import BadRow, Unlike
from bestlooks.looks import Curve, Design, Hidden, Rows, Sum, best_weights, can_tell, is_told_rightly, rank_of
from bestlooks.looks import spread_of
from bestlooks.polys import Poly
from tests.judging import Numbers, dotted, fr, frs, frss, hold_judge, is_judged, is_judged_row, is_pair, is_pair_row
from tests.judging import pair_of, pairs_of, rank_by_hand, solve_by_hand, spread_by_hand, table_by_hand
from tests.test_looks import row_by_hand
from tests.values import NO_RATIOS, expect, fields_of

LIST = Rows([[1, 0, 0], [0, 1, 0], [1, 1, 0], [2, 2, 0], [0, 0, 0], [1, -1, 0]])
FULL = Rows([[1, 0], [0, 1], [1, (1, 2)], [2, -1], [0, 0]])
LINE = Curve(-1, 1, (Poly((1,)), Poly((0, 1)), Poly((0, 0, 1))))
HANGING = Curve((1, 3), (5, 2), (Poly((1, 1)), Poly((0, 2, 1)), Poly((2, 4, 1)), Poly(())))
FLAT = Curve(0, 1, (Poly((2,)), Poly((3,))))
NAUGHT = Curve(0, 1, (Poly(()), Poly(())))
CURVES = (LINE, HANGING, FLAT, NAUGHT, Curve(-20, 20, (Poly((0, 0, 0, 0, 1)), Poly((1, 0, 0, 0, 1)))))


def rows_enough(looks):
    """Rows of Fractions that make those of all places: for a curve, the numbers of each power."""
    if isinstance(looks, Rows):
        return frss(looks.rows)
    size = max(len(poly.numbers) for poly in looks.polys)
    padded = [frs(poly.numbers) + [Fraction(0)] * (size - len(poly.numbers)) for poly in looks.polys]
    return [list(column) for column in zip(*padded)] or [[Fraction(0)] * len(looks.polys)]


def is_there(looks, place):
    place = fr(place)
    if isinstance(looks, Rows):
        return place.denominator == 1 and 0 <= place < len(looks.rows)
    return fr(looks.low) <= place <= fr(looks.high)


def is_right(looks, c, told):
    """What [14] says of a told value, by sums of the test's own."""
    rows, c = rows_enough(looks), frs(c)
    if type(told) is Hidden:
        if not is_judged_row(told.z, len(c)):
            return False
        return all(dotted(row, frs(told.z)) == 0 for row in rows) and dotted(c, frs(told.z)) == 1
    if type(told) is not Sum or not isinstance(told.places, tuple):
        return False
    if not all(is_judged(place) and is_there(looks, place) for place in told.places):
        return False
    places = frs(told.places)
    if any(one >= two for one, two in zip(places, places[1:])) or not is_judged_row(told.numbers, len(places)):
        return False
    numbers = frs(told.numbers)
    if any(number == 0 for number in numbers):
        return False
    made = [row_by_hand(looks, place) for place in told.places]
    return all(sum((u * row[k] for u, row in zip(numbers, made)), Fraction(0)) == c[k] for k in range(len(c)))


class BestWeights(unittest.TestCase):
    def holds(self, looks, design, c):
        rows = [row_by_hand(looks, place) for place in design.places]
        shares = frs(design.shares)
        table = table_by_hand(rows, shares)
        spread = spread_by_hand(table, frs(c))
        found = best_weights(looks, design, c)
        if spread is None:
            self.assertIs(found, None)
            self.assertIs(spread_of(looks, design, c), None)
            return False
        self.assertTrue(is_pair_row(found, len(rows)))
        weights = frs(found)
        self.assertEqual([dotted(weights, column) for column in zip(*rows)], frs(c))
        self.assertEqual(sum(u * u / part for u, part in zip(weights, shares)), spread)
        # The least sum: weights that are each share times v . r differ from others by rows that add nothing.
        self.assertIsNot(solve_by_hand(rows, [u / part for u, part in zip(weights, shares)]), None)
        self.assertEqual(spread_of(looks, design, c), pair_of(spread))
        self.assertTrue(is_pair(spread_of(looks, design, c)))
        return True

    def test_ordinary(self):
        even = Design((0, 1), ((1, 2), (1, 2)))
        self.assertEqual(best_weights(FULL, even, (1, 1)), ((1, 1), (1, 1)))
        self.assertEqual(spread_of(FULL, even, [1, 1]), (4, 1))
        self.assertEqual(spread_of(FULL, Design((0, 1), ((1, 3), (2, 3))), ((1, 2), 0)), (3, 4))
        outer = Design((-1, 0, 1), ((1, 4), (1, 2), (1, 4)))
        self.assertEqual(best_weights(LINE, outer, (0, 0, 1)), ((1, 2), (-1, 1), (1, 2)))
        self.assertEqual(spread_of(LINE, outer, (0, 0, 1)), (4, 1))

    def test_not_told(self):
        for design in (Design((0,), (1,)), Design((4,), (1,)), Design((0, 4), ((1, 2), (1, 2)))):
            self.assertFalse(self.holds(FULL, design, (1, 1)))
        self.assertTrue(self.holds(FULL, Design((0,), (1,)), (-3, 0)))
        self.assertFalse(self.holds(LINE, Design((-1, 1), ((1, 2), (1, 2))), (0, 0, 1)))
        self.assertTrue(self.holds(LINE, Design((-1, 1), ((1, 2), (1, 2))), (1, 0, 1)))
        self.assertFalse(self.holds(LIST, Design((0, 1, 2), ((1, 3), (1, 3), (1, 3))), (1, 1, (1, 10 ** 12))))

    def test_zeros(self):
        for looks, design in ((FULL, Design((0, 1), ((1, 2), (1, 2)))), (FULL, Design((4,), (1,))),
                              (NAUGHT, Design(((1, 2),), (1,)))):
            self.assertTrue(self.holds(looks, design, (0, 0)))
            self.assertEqual(best_weights(looks, design, (0, 0)), ((0, 1),) * len(design.places))
            self.assertEqual(spread_of(looks, design, (0, 0)), (0, 1))

    def test_too_many_places(self):
        design = Design((0, 1, 2, 3, 4), ((1, 5),) * 5)
        for c in ((1, 0), (0, 1), (1, 1), ((1, 2), (-7, 3))):
            self.assertTrue(self.holds(FULL, design, c))
        # A place of zeros alone has no part in any sum.
        self.assertEqual(best_weights(FULL, design, (1, 1))[4], (0, 1))

    def test_many(self):
        numbers = Numbers(30)
        kinds = {True: 0, False: 0}
        for _ in range(80):
            height, wide, inner = numbers.between(1, 6), numbers.between(1, 4), numbers.between(1, 3)
            lines, more = frss(numbers.rows(height, inner)), frss(numbers.rows(inner, wide))
            looks = Rows([pairs_of(dotted(line, column) for column in zip(*more)) for line in lines])
            places = sorted({numbers.below(height) for _ in range(height)})
            parts = [numbers.between(1, 9) for _ in places]
            design = Design(places, [(part, sum(parts)) for part in parts])
            c = numbers.row(wide)
            if numbers.below(2):
                c = looks.rows[numbers.below(height)]
            kinds[self.holds(looks, design, c)] += 1
        self.assertTrue(min(kinds.values()) > 10, kinds)

    def test_sizes(self):
        numbers = Numbers(31)
        looks = Rows([[numbers.long() for _ in range(4)] for _ in range(20)])
        design = Design(list(range(20)), [(1, 20)] * 20)
        self.assertTrue(self.holds(looks, design, [numbers.long() for _ in range(4)]))
        curve = Curve(-1, 1, [Poly([numbers.long() for _ in range(5)]) for _ in range(4)])
        places = [(k, 10) for k in range(-10, 10)]
        self.assertTrue(self.holds(curve, Design(places, [(1, 20)] * 20), [numbers.long() for _ in range(4)]))

    def test_errors(self):
        design = Design((0, 1), ((1, 2), (1, 2)))
        for call in (best_weights, spread_of):
            for c in ((), (1,), (1, 2, 3), None, 5, "12", [1, None], {0: 1, 1: 2}, ((1, 0), 1), Rows([[1, 2]])):
                expect(self, BadRow, {"row": c}, call, FULL, design, c)
            for value in NO_RATIOS:
                c = [1, value]
                expect(self, BadRow, {"row": c}, call, FULL, design, c)
            for places in ((5,), (-1,), ((1, 2),)):
                bad = Design(places, (1,))
                self.assertEqual(fields_of(self, Unlike, call, FULL, bad, (1, 2)), {"what": "place"})
                self.assertEqual(fields_of(self, Unlike, call, FULL, bad, None), {"what": "place"})
            self.assertEqual(fields_of(self, Unlike, call, LINE, Design((2,), (1,)), ()), {"what": "place"})


class CanTell(unittest.TestCase):
    def holds(self, looks, c):
        rows = rows_enough(looks)
        kind = Sum if rank_by_hand(rows) == rank_by_hand(rows + [frs(c)]) else Hidden
        found = can_tell(looks, c)
        self.assertIs(type(found), kind, c)
        self.assertTrue(is_right(looks, c, found), (c, vars(found)))
        if kind is Sum:
            self.assertTrue(is_pair_row(found.places, len(found.places)))
            self.assertTrue(is_pair_row(found.numbers, len(found.places)))
        else:
            self.assertTrue(is_pair_row(found.z, len(c)))
        self.assertIs(is_told_rightly(looks, c, found), True)
        return found

    def test_lists(self):
        for c in ((1, 0, 0), (3, (1, 2), 0), (0, 0, 0), (0, 0, 1), (1, 1, (-1, 7)), [[1, 2], 5, 0]):
            self.holds(LIST, c)
        found = self.holds(Rows([[0, 0]]), (0, 0))
        self.assertEqual((found.places, found.numbers), ((), ()))
        self.holds(Rows([[0, 0]]), (0, 5))
        self.holds(Rows([[2]]), (-3,))

    def test_curves(self):
        for c in ((1, 0, 0), (0, 0, 1), (1, 9, 81), ((1, 3), (-2, 7), 0), (0, 0, 0)):
            self.assertIs(type(self.holds(LINE, c)), Sum)
        for c in ((1, 0, 0, 0), (1, 0, 2, 0), (1, 1, 3, 0), (0, 1, 1, 0), (0, 0, 0, 1), (1, (1, 2), (5, 2), 0)):
            self.holds(HANGING, c)
        self.assertIs(type(can_tell(HANGING, (1, (1, 2), (5, 2), 0))), Sum)
        for c in ((2, 3), (1, 1), (0, 0), ((-1, 3), (-1, 2))):
            self.holds(FLAT, c)
            self.holds(NAUGHT, c)
        for c in ((0, 1), (1, 1), (1, 0)):
            self.holds(CURVES[4], c)

    def test_many(self):
        numbers = Numbers(32)
        kinds = {Sum: 0, Hidden: 0}
        for _ in range(100):
            height, wide, inner = numbers.between(1, 7), numbers.between(1, 4), numbers.between(1, 4)
            lines, more = frss(numbers.rows(height, inner)), frss(numbers.rows(inner, wide))
            rows = [pairs_of(dotted(line, column) for column in zip(*more)) for line in lines]
            looks = Rows(rows) if numbers.below(2) else Curve(-3, (1, 2), [Poly(column) for column in zip(*rows)])
            c = numbers.row(wide)
            if numbers.below(2):
                base = rows_enough(looks)
                factors = frs(numbers.row(len(base)))
                c = pairs_of(dotted(factors, column) for column in zip(*base))
            kinds[type(self.holds(looks, c))] += 1
        self.assertTrue(min(kinds.values()) > 10, kinds)

    def test_sizes(self):
        numbers = Numbers(33)
        rows = [[numbers.long() for _ in range(4)] for _ in range(20)]
        self.assertIs(type(self.holds(Rows(rows), [numbers.long() for _ in range(4)])), Sum)
        flat = [row[:3] + [pair_of(sum(frs(row[:3])))] for row in rows]
        self.assertIs(type(self.holds(Rows(flat), [numbers.long() for _ in range(4)])), Hidden)
        polys = [Poly([numbers.long() for _ in range(5)]) for _ in range(4)]
        curve = Curve((-1, 10 ** 39 + 3), numbers.long()[1], polys)
        self.assertIs(type(self.holds(curve, [numbers.long() for _ in range(4)])), Sum)
        hanging = Curve(0, 1, polys[:3] + [polys[0] - polys[1] * (7, 3)])
        self.assertIs(type(self.holds(hanging, [numbers.long() for _ in range(4)])), Hidden)

    def test_bad_number(self):
        for looks in (LIST, LINE):
            for c in ((), (1,), (1, 2), (1, 2, 3, 4), None, 5, "123", [1, 2, None], {0: 1}, ((1, 0), 1, 1)):
                expect(self, BadRow, {"row": c}, can_tell, looks, c)
                expect(self, BadRow, {"row": c}, is_told_rightly, looks, c, Hidden((0, 0, 1)))
            for value in NO_RATIOS:
                c = [1, value, 2]
                expect(self, BadRow, {"row": c}, can_tell, looks, c)
                expect(self, BadRow, {"row": c}, is_told_rightly, looks, c, None)


class IsToldRightly(unittest.TestCase):
    def test_changed_in_one_thing(self):
        for looks, c in ((LIST, (3, (1, 2), 0)), (LIST, (0, 0, 0)), (LIST, (1, 0, 1)), (LINE, (1, 3, 9)),
                         (LINE, (0, 0, 0)), (HANGING, (1, 0, 0, 0)), (HANGING, (0, 1, 1, 0)), (FLAT, (2, 3)),
                         (FLAT, (2, 4)), (NAUGHT, (1, 0)), (NAUGHT, (0, 0))):
            found = can_tell(looks, c)
            hold_judge(self, is_told_rightly, (looks, c), found, lambda value: is_right(looks, c, value))

    def test_places(self):
        c = (1, 1)
        for told, right in ((Sum((0, 1), (1, 1)), True), (Sum([0, 1], [1, 1]), True), (Sum((1, 0), (1, 1)), False),
                            (Sum(((0, 2), (3, 3)), ((2, 2), 1)), True), (Sum((0, 0, 1), ((1, 2), (1, 2), 1)), False),
                            (Sum((0, 1, 4), (1, 1, 0)), False), (Sum((0, 1, 4), (1, 1, 7)), True),
                            (Sum((0, 1, 5), (1, 1, 1)), False), (Sum((-1, 0, 1), (1, 1, 1)), False),
                            (Sum((0, [1, 1]), (1, 1)), False), (Sum((0, 1), (1, [1, 1])), False),
                            (Sum((0, True), (1, 1)), False), (Sum((0, 1), (1, True)), False),
                            (Sum(((2, 1), (3, 1)), ((6, 4), (-1, 4))), True), (Sum(((5, 2),), (1,)), False),
                            (Sum((), ()), False), (Hidden((1, 0)), False), (Hidden((0, 0)), False)):
            self.assertIs(is_right(FULL, c, told), right, vars(told))
            self.assertIs(is_told_rightly(FULL, c, told), right, vars(told))

    def test_places_of_a_curve(self):
        c = (1, 0, (1, 4))
        for told, right in ((Sum(((-1, 2), (1, 2)), ((1, 2), (1, 2))), True), (Sum((-1, 0, 1), (1, 1, 1)), False),
                            (Sum(((-2, 4), (3, 6)), ((1, 2), (1, 2))), True), (Sum((-1, 0, 1), ((1, 8), (3, 4), (1, 8))), True),
                            (Sum((-2, 0, 2), ((1, 32), (15, 16), (1, 32))), False), (Hidden((1, 0, 0)), False)):
            self.assertIs(is_told_rightly(LINE, c, told), right, vars(told))
        # Seen at no place that is an integer, but elsewhere.
        wavy = Curve(0, 2, (Poly((0, 2, -3, 1)), Poly((1,))))
        self.assertIs(is_told_rightly(wavy, (1, 0), Hidden((1, 0))), False)
        self.assertIs(type(can_tell(wavy, (1, 0))), Sum)


class RankOf(unittest.TestCase):
    def test_ranks(self):
        self.assertEqual(rank_of(LIST), 2)
        self.assertEqual(rank_of(FULL), 2)
        self.assertEqual(rank_of(Rows([[0, 0]])), 0)
        self.assertEqual([rank_of(curve) for curve in CURVES], [3, 2, 1, 0, 2])
        self.assertEqual(rank_of(Curve(0, 2, (Poly((0, 2, -3, 1)), Poly((1,))))), 2)

    def test_many(self):
        numbers = Numbers(34)
        for _ in range(60):
            height, wide, inner = numbers.between(1, 20), numbers.between(1, 4), numbers.between(1, 4)
            lines, more = frss(numbers.rows(height, inner)), frss(numbers.rows(inner, wide))
            rows = [pairs_of(dotted(line, column) for column in zip(*more)) for line in lines]
            self.assertEqual(rank_of(Rows(rows)), rank_by_hand(frss(rows)))
            curve = Curve((-1, 3), 7, [Poly(column) for column in zip(*rows[:5])])
            self.assertEqual(rank_of(curve), rank_by_hand(rows_enough(curve)))

    def test_sizes(self):
        numbers = Numbers(35)
        rows = [[numbers.long() for _ in range(3)] for _ in range(20)]
        hanging = [row + [pair_of(fr(row[0]) - 7 * fr(row[2]))] for row in rows]
        self.assertEqual(rank_of(Rows(hanging)), 3)
        self.assertEqual(rank_of(Rows(hanging[:-1] + [[numbers.long() for _ in range(4)]])), 4)
        polys = [Poly([numbers.long() for _ in range(5)]) for _ in range(3)]
        curve = Curve((-1, 10 ** 39 + 3), (1, 10 ** 39), polys + [polys[0] - polys[2] * (1, 10 ** 40)])
        self.assertEqual(rank_of(curve), 3)


class Kept(unittest.TestCase):
    def test_keep_what_they_are_given(self):
        inner = [1, 2]
        row = [inner, 3]
        for made in (Sum(row, row), Hidden(row)):
            for value in vars(made).values():
                self.assertIs(type(value), tuple)
                self.assertIs(value[0], inner)
            self.assertTrue(made == made)
        self.assertEqual(list(vars(Sum(1, 2))), ["places", "numbers"])
        self.assertEqual(list(vars(Hidden(1))), ["z"])
        self.assertFalse(Sum((), ()) == Sum((), ()))
        self.assertFalse(Hidden((1,)) == Hidden((1,)))
        self.assertEqual(vars(Sum(((2, 4),), (0,))), {"places": ((2, 4),), "numbers": (0,)})


if __name__ == "__main__":
    unittest.main()
