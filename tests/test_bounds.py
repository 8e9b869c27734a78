"""Promise [16]: bounds for all places."""

import unittest
from fractions import Fraction

from bestlooks.errors import BadNumber, Unlike
from bestlooks.looks import Curve, Design, Rows, table_of
from bestlooks.polys import Poly
from bestlooks.signs import Capped, Over, Split, capped, is_capped, least_of
from bestlooks.tables import Table
from tests.judging import ANYTHING, Numbers, form_by_hand, fr, frss, hold_judge, is_pair, pair_of
from tests.test_looks import row_by_hand
from tests.test_signs import X, is_right_split, product_by_hand
from tests.values import NO_RATIOS, expect, fields_of

LIST = Rows([[1, 0], [0, 2], [1, (1, 2)], [2, -1], [0, 0]])
LINE = Curve(-1, 1, (Poly((1,)), X, X * X))
UNIT = Table([[1, 0], [0, 1]])
LITTLE = Fraction(1, 10 ** 12)


def room_by_hand(curve, table, bound):
    """The Poly bound - r A r, made of products of the test's own."""
    found = [fr(bound)]
    for row, one in zip(frss(table.rows), curve.polys):
        for factor, two in zip(row, curve.polys):
            made = product_by_hand([fr(n) for n in one.numbers], [fr(n) for n in two.numbers])
            found = found + [Fraction(0)] * (len(made) - len(found))
            for k, number in enumerate(made):
                found[k] -= factor * number
    return Poly([pair_of(number) for number in found])


def is_right(looks, table, bound, told):
    """What [16] says of a told Capped, by sums of the test's own."""
    if type(told) is not Capped:
        return False
    if isinstance(looks, Rows):
        return told.split is None and all(form_by_hand(frss(table.rows), row) <= fr(bound) for row in frss(looks.rows))
    return is_right_split(room_by_hand(looks, table, bound), looks.low, looks.high, told.split)


class Bounds(unittest.TestCase):
    def caps(self, looks, table, bound):
        found = capped(looks, table, bound)
        self.assertIs(type(found), Capped, bound)
        self.assertTrue(is_right(looks, table, bound, found))
        self.assertIs(is_capped(looks, table, bound, found), True)
        return found

    def over(self, looks, table, bound):
        found = capped(looks, table, bound)
        self.assertIs(type(found), Over, bound)
        self.assertTrue(is_pair(found.place) and is_pair(found.number))
        row = row_by_hand(looks, found.place)
        self.assertEqual(fr(found.number), form_by_hand(frss(table.rows), row))
        self.assertTrue(fr(found.number) > fr(bound))
        self.assertIs(is_capped(looks, table, bound, found), False)
        return found

    def just(self, looks, table, greatest):
        self.caps(looks, table, pair_of(greatest))
        self.caps(looks, table, pair_of(greatest + LITTLE))
        self.over(looks, table, pair_of(greatest - LITTLE))

    def test_lists(self):
        self.assertIs(self.caps(LIST, UNIT, 5).split, None)
        self.assertEqual(self.over(LIST, UNIT, (49, 10)).place, (3, 1))
        self.just(LIST, UNIT, 5)
        self.just(LIST, Table([[-1, 0], [0, -2]]), 0)
        self.just(LIST, Table([[0, 1], [1, 0]]), 1)
        self.just(Rows([[1, 0], [0, 2]]), Table([[-1, 0], [0, -2]]), -1)
        numbers = Numbers(60)
        for _ in range(20):
            k = numbers.between(1, 5)
            rows = numbers.rows(numbers.between(1, 40), k)
            half = numbers.rows(k, k)
            table = Table(half) + Table(half).turned()
            greatest = max(form_by_hand(frss(table.rows), row) for row in frss(rows))
            self.just(Rows(rows), table, greatest)

    def test_curves(self):
        even = table_of(LINE, Design((-1, 0, 1), ((1, 3), (1, 3), (1, 3))))
        self.just(LINE, even.inverse(), 3)
        self.just(LINE, Table([[1, 0, 0], [0, 1, 0], [0, 0, 1]]), 3)
        self.just(LINE, Table([[0] * 3] * 3), 0)
        self.just(LINE, Table([[-1, 0, 0], [0, 0, 0], [0, 0, 0]]), -1)
        # The greatest value is at places that are no ratios, within.
        inner = Curve(-1, 1, (X, X * X * X))
        table = Table([[1, (-1, 1)], [(-1, 1), 0]])
        self.just(inner, table, Fraction(1, 8))

    def test_curves_by_least_of(self):
        numbers = Numbers(61)
        for _ in range(15):
            k = numbers.between(1, 4)
            curve = Curve(-2, (3, 2), [Poly(numbers.row(numbers.between(1, 5))) for _ in range(k)])
            half = numbers.rows(k, k)
            table = Table(half) + Table(half).turned()
            floor = least_of(room_by_hand(curve, table, 0), curve.low, curve.high, 20)
            self.caps(curve, table, pair_of(-fr(floor.number)))
            self.over(curve, table, pair_of(-fr(floor.number) - Fraction(1, 2 ** 20)))

    def test_sizes(self):
        numbers = Numbers(62)
        polys = [Poly([numbers.between(-9, 9) for _ in range(7)]) for _ in range(5)]
        curve = Curve((-13, 7), 2, polys)
        places = [(k - 12, 8) for k in range(24)]
        table = table_of(curve, Design(places, [(1, 24)] * 24)).inverse()
        floor = least_of(room_by_hand(curve, table, 0), curve.low, curve.high, 12)
        self.caps(curve, table, pair_of(-fr(floor.number)))
        self.over(curve, table, pair_of(-fr(floor.number) - Fraction(1, 2 ** 12)))
        rows = Rows([[numbers.long() for _ in range(5)] for _ in range(40)])
        table = table_of(rows, Design(list(range(24)), [(1, 24)] * 24))
        greatest = max(form_by_hand(frss(table.rows), row) for row in frss(rows.rows))
        self.just(rows, table, greatest)


class IsCapped(unittest.TestCase):
    def test_changed_in_one_thing(self):
        table = Table([[1, 0, 0], [0, 1, 0], [0, 0, 1]])
        for looks, form, bound in ((LINE, table, 3), (LINE, table, (31, 10)), (LINE, table * 0, 0)):
            told = capped(looks, form, bound)
            hold_judge(self, is_capped, (looks, form, bound), told, lambda value: is_right(looks, form, bound, value))
        told = capped(LIST, UNIT, 5)
        hold_judge(self, is_capped, (LIST, UNIT, 5), told, lambda value: is_right(LIST, UNIT, 5, value))

    def test_wrong_ones(self):
        split = capped(LINE, Table([[1, 0, 0], [0, 1, 0], [0, 0, 1]]), 3).split
        self.assertIs(is_capped(LIST, UNIT, 5, Capped(split)), False)
        self.assertIs(is_capped(LIST, UNIT, (49, 10), Capped(None)), False)
        self.assertIs(is_capped(LIST, UNIT, 7, Capped(None)), True)
        self.assertIs(is_capped(LIST, UNIT, 7, split), False)
        table = Table([[1, 0, 0], [0, 1, 0], [0, 0, 1]])
        for value in ANYTHING:
            self.assertIs(is_capped(LINE, table, 3, Capped(value)), False)
        self.assertIs(is_capped(LINE, table, 4, Capped(split)), False)
        self.assertIs(is_capped(LINE, table, 3, split), False)
        poly = room_by_hand(LINE, table, 2)
        self.assertIs(is_capped(LINE, table, 2, Capped(Split(Poly((1,)), poly, ()))), False)


class Errors(unittest.TestCase):
    def test_sizes_even_bound(self):
        for looks, good in ((LIST, UNIT), (LINE, Table([[0] * 3] * 3))):
            for call in (lambda *told: capped(*told), lambda *told: is_capped(*told, None)):
                for rows in ([[1]], [[1, 2, 3]], [[1, 2, 3, 4]] * 4, [[1], [1]], [[1, 2]]):
                    wrong = (lambda table: call(looks, table, None))
                    self.assertEqual(fields_of(self, Unlike, wrong, Table(rows)), {"what": "sizes"})
                uneven = Table([[j - i for j in range(good.width)] for i in range(good.width)])
                self.assertEqual(fields_of(self, Unlike, call, looks, uneven, None), {"what": "even"})
                for bound in NO_RATIOS:
                    expect(self, BadNumber, {"what": "bound", "number": bound}, call, looks, good, bound)


class Kept(unittest.TestCase):
    def test_keep_what_they_are_given(self):
        inner = [1, 2]
        row = [inner, 3]
        for made, names in ((Capped(row), "split"), (Over(row, row), "place number")):
            self.assertEqual(list(vars(made)), names.split())
            for value in vars(made).values():
                self.assertIs(type(value), tuple)
                self.assertIs(value[0], inner)
        self.assertFalse(Capped(None) == Capped(None))
        self.assertFalse(Over(1, 2) == Over(1, 2))


if __name__ == "__main__":
    unittest.main()
