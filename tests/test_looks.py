"""Promises [9] to [12] and [8]: looks, designs, their tables."""

import unittest
from fractions import Fraction

from bestlooks.errors import BadInterval, BadNumber, BadRow, Unlike
from bestlooks.looks import Curve, Design, Rows, form_at, form_on, row_at, table_of, width
from bestlooks.polys import Poly
from bestlooks.tables import Table
from tests.judging import Numbers, form_by_hand, fr, frs, frss, pair_of, pairs_of, table_by_hand
from tests.values import NO_RATIOS, copied, expect, fields_of

LIST = Rows([[1, 0], [0, 1], [1, (1, 2)], [2, -1], [0, 0]])
CURVE = Curve((-1, 2), 2, (Poly((1,)), Poly((0, 1)), Poly((1, 0, (-1, 3)))))


def value_at(poly, place):
    return sum((fr(number) * place ** k for k, number in enumerate(poly.numbers)), Fraction(0))


def row_by_hand(looks, place):
    place = fr(place)
    if isinstance(looks, Rows):
        return frs(looks.rows[int(place)])
    return [value_at(poly, place) for poly in looks.polys]


class RowsMade(unittest.TestCase):
    def test_ratios_as_pairs(self):
        rows = [[1, (2, 4)], ([6, 3], -1)]
        before = copied(rows)
        self.assertEqual(Rows(rows).rows, (((1, 1), (1, 2)), ((2, 1), (-1, 1))))
        self.assertEqual(Rows(((0,),)).rows, (((0, 1),),))
        self.assertEqual(copied(rows), before)
        made = Rows(rows)
        rows[0].append(3)
        self.assertEqual(made.rows, (((1, 1), (1, 2)), ((2, 1), (-1, 1))))
        self.assertEqual(list(vars(made)), ["rows"])
        self.assertTrue(made == made)
        self.assertFalse(made == Rows(made.rows))

    def test_none(self):
        for rows in ((), [], [[]], [[1], [1, 2]], [1], None, 4, "ab", {0: [1]}, [{0: 1}], [[1], None], Rows([[1]])):
            expect(self, BadRow, {"row": rows}, Rows, rows)
        for value in NO_RATIOS:
            rows = [[1, 1], [value, 1]]
            expect(self, BadRow, {"row": rows}, Rows, rows)


class CurveMade(unittest.TestCase):
    def test_attributes(self):
        polys = [Poly((1,)), Poly(())]
        curve = Curve([2, -0 + 4], 3, polys)
        self.assertEqual((curve.low, curve.high), ((1, 2), (3, 1)))
        self.assertEqual(len(curve.polys), 2)
        self.assertIs(type(curve.polys), tuple)
        self.assertIs(curve.polys[0], polys[0])
        self.assertIs(curve.polys[1], polys[1])
        polys.append(Poly((2,)))
        self.assertEqual(len(curve.polys), 2)
        self.assertEqual(list(vars(curve)), ["low", "high", "polys"])
        self.assertTrue(curve == curve)
        self.assertFalse(curve == Curve(curve.low, curve.high, curve.polys))

    def test_interval(self):
        for low, high in ((1, 1), (2, 1), ((1, 2), (2, 4)), ((1, 2), (1, 3)), (0, -1), (10 ** 40, 10 ** 40)):
            expect(self, BadInterval, {"low": low, "high": high}, Curve, low, high, None)
        for value in NO_RATIOS:
            expect(self, BadInterval, {"low": value, "high": 1}, Curve, value, 1, (Poly((1,)),))
            expect(self, BadInterval, {"low": 1, "high": value}, Curve, 1, value, None)

    def test_polys(self):
        for polys in ((), [], None, Poly((1,)), 3, "ab", (1,), (Poly((1,)), (1, 2)), [None], {0: Poly((1,))}, ((),)):
            expect(self, BadRow, {"row": polys}, Curve, 0, 1, polys)
        self.assertEqual(Curve(0, 1, (Poly(()),)).polys[0], Poly(()))


class Looking(unittest.TestCase):
    def test_width(self):
        self.assertEqual(width(LIST), 2)
        self.assertEqual(width(CURVE), 3)
        self.assertEqual(width(Rows([[1, 2, 3, 4]])), 4)
        self.assertEqual(width(Curve(0, 1, [Poly(())])), 1)

    def test_row_of_a_list(self):
        for place in (0, (0, 1), (0, 5), [0, 2]):
            self.assertEqual(row_at(LIST, place), ((1, 1), (0, 1)))
        for place in (4, (4, 1), (8, 2), [12, 3]):
            self.assertEqual(row_at(LIST, place), ((0, 1), (0, 1)))
        self.assertEqual(row_at(LIST, (4, 2)), ((1, 1), (1, 2)))
        for place in (-1, 5, (-1, 1), (5, 1), (1, 2), (3, 2), [9, 2], (-1, 2), 10 ** 40, (39, 10), (-4, 4), (20, 4)):
            expect(self, BadNumber, {"what": "place", "number": place}, row_at, LIST, place)

    def test_row_of_a_curve(self):
        self.assertEqual(row_at(CURVE, (-1, 2)), ((1, 1), (-1, 2), (11, 12)))
        self.assertEqual(row_at(CURVE, 2), ((1, 1), (2, 1), (-1, 3)))
        self.assertEqual(row_at(CURVE, [2, 4]), ((1, 1), (1, 2), (11, 12)))
        self.assertEqual(row_at(CURVE, (0, 3)), ((1, 1), (0, 1), (1, 1)))
        for place in (-1, 3, (-51, 100), (201, 100), (-10 ** 40, 2 * 10 ** 40 - 1), (2 * 10 ** 40 + 1, 10 ** 40)):
            expect(self, BadNumber, {"what": "place", "number": place}, row_at, CURVE, place)

    def test_no_place_at_all(self):
        for value in NO_RATIOS:
            expect(self, BadNumber, {"what": "place", "number": value}, row_at, LIST, value)
            expect(self, BadNumber, {"what": "place", "number": value}, row_at, CURVE, value)


class DesignMade(unittest.TestCase):
    def test_attributes(self):
        design = Design([0, [1, 2], (6, 4)], ((1, 2), [2, 8], (1, 4)))
        self.assertEqual(design.places, ((0, 1), (1, 2), (3, 2)))
        self.assertEqual(design.shares, ((1, 2), (1, 4), (1, 4)))
        self.assertEqual(list(vars(design)), ["places", "shares"])
        self.assertEqual(Design((5,), (1,)).shares, ((1, 1),))
        self.assertEqual(Design((5,), ((7, 7),)).shares, ((1, 1),))

    def test_places(self):
        for places in ((), [], (1, 0), (0, 0), (0, (0, 5)), ((1, 2), (2, 4)), (0, 2, 1), None, 1, "01", {0: 1},
                       (0, None), Design((0,), (1,)), ((1, 2), (1, 3))):
            expect(self, BadRow, {"row": places}, Design, places, None)
        for value in NO_RATIOS:
            places = [-100, value]
            expect(self, BadRow, {"row": places}, Design, places, ((1, 2), (1, 2)))

    def test_shares(self):
        half = (1, 2)
        for shares in ((), (1,), (half,), (half, half, half), (half, (1, 3)), (half, (2, 3)), (0, 1), (1, 0), (2, -1),
                       (-1, 2), None, 1, "11", {half: 1, 1: half}, (half, None), ((1, 2), (10 ** 12 + 1, 2 * 10 ** 12)),
                       (half, half, 0)):
            expect(self, BadRow, {"row": shares}, Design, (0, 1), shares)
        for value in NO_RATIOS:
            shares = [half, value]
            expect(self, BadRow, {"row": shares}, Design, [0, 1], shares)

    def test_equal(self):
        one = Design((0, 1), ((1, 2), (1, 2)))
        self.assertTrue(one == Design([(0, 3), 1], ((3, 6), [1, 2])))
        self.assertFalse(one != Design([(0, 3), 1], ((3, 6), [1, 2])))
        self.assertFalse(one == Design((0, 2), ((1, 2), (1, 2))))
        self.assertFalse(one == Design((0, 1), ((1, 3), (2, 3))))
        self.assertFalse(one == Design((0,), (1,)))
        for other in (None, 0, (0, 1), ((0, 1), ((1, 2), (1, 2))), Rows([[1]]), "x"):
            self.assertFalse(one == other)


class Tables(unittest.TestCase):
    def test_of_a_list(self):
        design = Design((0, (4, 2), 3), ((1, 2), (1, 3), (1, 6)))
        expected = [[Fraction(1, 2) + Fraction(1, 3) + Fraction(4, 6), Fraction(1, 6) - Fraction(2, 6)],
                    [Fraction(1, 6) - Fraction(2, 6), Fraction(1, 12) + Fraction(1, 6)]]
        found = table_of(LIST, design)
        self.assertIs(type(found), Table)
        self.assertEqual(found.rows, tuple(pairs_of(row) for row in expected))
        self.assertEqual(table_of(LIST, Design((4,), (1,))), Table([[0, 0], [0, 0]]))

    def test_of_a_curve(self):
        design = Design(((-1, 2), (1, 3), 2), ((1, 5), (3, 5), (1, 5)))
        rows = [row_by_hand(CURVE, place) for place in design.places]
        self.assertEqual(table_of(CURVE, design).rows,
                         tuple(pairs_of(row) for row in table_by_hand(rows, frs(design.shares))))

    def test_places_that_are_none(self):
        for places in ((-1,), (5,), ((1, 2),), (0, 1, 5), ((3, 2), 2), (-1, 0)):
            design = Design(places, [(1, len(places))] * len(places))
            self.assertEqual(fields_of(self, Unlike, table_of, LIST, design), {"what": "place"})
        for places in ((-1,), (3,), (0, 1, (201, 100)), ((-51, 100), 0)):
            design = Design(places, [(1, len(places))] * len(places))
            self.assertEqual(fields_of(self, Unlike, table_of, CURVE, design), {"what": "place"})

    def test_sizes(self):
        numbers = Numbers(20)
        looks = Rows([[numbers.long() for _ in range(4)] for _ in range(20)])
        parts = [numbers.between(1, 9) for _ in range(20)]
        design = Design(list(range(20)), [(part, sum(parts)) for part in parts])
        expected = table_by_hand(frss(looks.rows), frs(design.shares))
        self.assertEqual(table_of(looks, design).rows, tuple(pairs_of(row) for row in expected))


class Forms(unittest.TestCase):
    TABLE = Table([[2, (1, 2)], [(1, 2), -1]])
    WIDE = Table([[2, (1, 2), 0], [(1, 2), -1, 3], [0, 3, (-1, 7)]])

    def test_form_at(self):
        for place in range(5):
            expected = form_by_hand(frss(self.TABLE.rows), row_by_hand(LIST, place))
            self.assertEqual(form_at(LIST, self.TABLE, place), pair_of(expected))
        self.assertEqual(form_at(LIST, self.TABLE, [4, 2]), form_at(LIST, self.TABLE, 2))
        for place in ((-1, 2), 0, (1, 3), 2, [3, 2], (6, 4)):
            expected = form_by_hand(frss(self.WIDE.rows), row_by_hand(CURVE, place))
            self.assertEqual(form_at(CURVE, self.WIDE, place), pair_of(expected))

    def test_form_on(self):
        poly = form_on(CURVE, self.WIDE)
        self.assertIs(type(poly), Poly)
        for k in range(-10, 30):
            place = Fraction(k, 7)
            expected = form_by_hand(frss(self.WIDE.rows), [value_at(p, place) for p in CURVE.polys])
            self.assertEqual(poly.at(pair_of(place)), pair_of(expected))
        self.assertEqual(form_on(CURVE, Table([[0] * 3] * 3)), Poly(()))
        self.assertEqual(form_on(Curve(0, 1, (Poly((0, 1)),)), Table([[3]])), Poly((0, 0, 3)))

    def test_errors(self):
        for rows in ([[1]], [[1, 2, 3]], [[1, 2], [2, 1], [1, 1]], [[1, 2, 3], [2, 1, 1], [3, 1, 1]], [[1, 2]],
                     [[1, 2, 3], [2, 1, 1]], [[1], [2]]):
            call = (lambda table: form_at(LIST, table, None))
            self.assertEqual(fields_of(self, Unlike, call, Table(rows)), {"what": "sizes"})
        for rows in ([[1]], [[1, 2], [2, 1]], [[1, 2, 3]], [[1, 2]] * 3):
            self.assertEqual(fields_of(self, Unlike, form_on, CURVE, Table(rows)), {"what": "sizes"})
            call = (lambda table: form_at(CURVE, table, 0))
            self.assertEqual(fields_of(self, Unlike, call, Table(rows)), {"what": "sizes"})
        uneven = Table([[1, 2], [3, 1]])
        self.assertEqual(fields_of(self, Unlike, form_at, LIST, uneven, None), {"what": "even"})
        uneven = Table([[1, 0, 0], [0, 1, 1], [0, 0, 1]])
        self.assertEqual(fields_of(self, Unlike, form_on, CURVE, uneven), {"what": "even"})
        self.assertEqual(fields_of(self, Unlike, form_at, CURVE, uneven, 7), {"what": "even"})
        for place in (5, -1, (1, 2), None, "0", (0, 0)):
            expect(self, BadNumber, {"what": "place", "number": place}, form_at, LIST, self.TABLE, place)
        for place in (3, -1, None, [1]):
            expect(self, BadNumber, {"what": "place", "number": place}, form_at, CURVE, self.WIDE, place)

    def test_sizes(self):
        numbers = Numbers(21)
        polys = [Poly([numbers.long() for _ in range(5)]) for _ in range(4)]
        curve = Curve(-20, 20, polys)
        line = [numbers.long() for _ in range(4)]
        table = Table([[pair_of(fr(a) * fr(b)) for a in line] for b in line])
        poly = form_on(curve, table)
        self.assertEqual(poly.degree(), 8)
        for place in (-20, 0, (7, 3), 20):
            expected = form_by_hand(frss(table.rows), row_by_hand(curve, place))
            self.assertEqual(poly.at(place), pair_of(expected))
            self.assertEqual(form_at(curve, table, place), pair_of(expected))


if __name__ == "__main__":
    unittest.main()
