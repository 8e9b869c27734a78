"""Promises [20] and [21]: few places, mixed designs, other numbers, mirrors."""

import unittest
from fractions import Fraction

from bestlooks.errors import BadNumber, BadRow, Unlike
from bestlooks.looks import Curve, Design, Rows, spread_of, table_of
from bestlooks.orders import evened, few_places, mirror, mixed_design, turned_number, turned_rows, turned_table
from bestlooks.polys import Poly
from bestlooks.tables import Table
from tests.judging import Numbers, dotted, fr, frs, frss, is_pair_row, pair_of, pairs_of, spread_by_hand, table_by_hand
from tests.test_looks import row_by_hand
from tests.values import NO_RATIOS, copied, expect, fields_of


def table_of_hand(looks, design):
    return table_by_hand([row_by_hand(looks, place) for place in design.places], frs(design.shares))


def some_design(numbers, places):
    parts = [numbers.between(1, 9) for _ in places]
    return Design(places, [(part, sum(parts)) for part in parts])


class FewPlaces(unittest.TestCase):
    def holds(self, looks, design, k):
        found = few_places(looks, design)
        self.assertIs(type(found), Design)
        self.assertTrue(len(found.places) <= k * (k + 1) // 2 + 1, len(found.places))
        self.assertTrue(all(place in design.places for place in found.places))
        self.assertEqual(table_of_hand(looks, found), table_of_hand(looks, design))
        return found

    def test_lists(self):
        numbers = Numbers(80)
        for k in range(1, 6):
            for many in (1, 2, 5, 20, 24):
                looks = Rows(numbers.rows(max(many, 4), k, 4, 3))
                self.holds(looks, some_design(numbers, list(range(many))), k)

    def test_rows_that_come_again(self):
        looks = Rows([[1, 2], [1, 2], [-1, -2], [0, 0], [0, 0], [2, 4], [1, 2], [3, 1], [3, 1], [1, 2]])
        found = self.holds(looks, Design(list(range(10)), [(1, 10)] * 10), 2)
        self.assertTrue(len(found.places) <= 4)
        self.holds(Rows([[0]] * 24), Design(list(range(24)), [(1, 24)] * 24), 1)
        self.holds(Rows([[1]] * 24), Design(list(range(24)), [(1, 24)] * 24), 1)

    def test_curves(self):
        numbers = Numbers(81)
        for k in range(1, 6):
            curve = Curve(-1, 1, [Poly(numbers.row(numbers.between(1, 7))) for _ in range(k)])
            for many in (1, 3, 20, 24):
                places = [(2 * j - many, many + 1) for j in range(many)]
                self.holds(curve, some_design(numbers, places), k)
        line = Curve(0, 1, (Poly((1,)), Poly((0, 1))))
        self.holds(line, Design([(j, 23) for j in range(24)], [(1, 24)] * 24), 2)

    def test_few_already(self):
        looks = Rows([[1, 0], [0, 1], [1, 1]])
        for places in ((0,), (1, 2), (0, 1, 2)):
            design = Design(places, [(1, len(places))] * len(places))
            self.assertTrue(self.holds(looks, design, 2) == design)

    def test_sizes(self):
        numbers = Numbers(82)
        looks = Rows([[numbers.long(20) for _ in range(5)] for _ in range(40)])
        self.holds(looks, some_design(numbers, list(range(10, 34))), 5)
        polys = [Poly([numbers.long() for _ in range(7)]) for _ in range(3)]
        places = sorted({Fraction(numbers.between(-10 ** 9, 10 ** 9), 10 ** 9) for _ in range(24)})
        self.holds(Curve(-1, 1, polys), some_design(numbers, pairs_of(places)), 3)
        looks = Rows([[numbers.long() for _ in range(5)] for _ in range(40)])
        self.holds(looks, some_design(numbers, list(range(0, 40, 2))[:20] + [39]), 5)
        polys = [Poly([numbers.long() for _ in range(7)]) for _ in range(5)]
        self.holds(Curve(-1, 1, polys), some_design(numbers, [(k - 12, 13) for k in range(24)]), 5)

    def test_places_that_are_none(self):
        design = Design((0, 3), ((1, 2), (1, 2)))
        self.assertEqual(fields_of(self, Unlike, few_places, Rows([[1], [2], [3]]), design), {"what": "place"})
        curve = Curve(0, 1, (Poly((1,)),))
        self.assertEqual(fields_of(self, Unlike, few_places, curve, design), {"what": "place"})


class MixedDesign(unittest.TestCase):
    HALF = ((1, 2), (1, 2))

    def test_places_in_common(self):
        one, other = Design((0, 1), self.HALF), Design(((1, 2), 1), ((1, 3), (2, 3)))
        found = mixed_design((one, other), ((1, 4), [3, 4]))
        self.assertEqual(found.places, ((0, 1), (1, 2), (1, 1)))
        self.assertEqual(found.shares, ((1, 8), (1, 4), (5, 8)))
        self.assertTrue(mixed_design([one], [1]) == one)
        self.assertTrue(mixed_design([one, one], ((3, 6), (1, 2))) == one)
        self.assertEqual(mixed_design([Design((-3,), (1,)), Design(((-7, 2),), (1,))], self.HALF).places,
                         ((-7, 2), (-3, 1)))

    def test_tables(self):
        numbers = Numbers(83)
        for _ in range(20):
            looks = Rows(numbers.rows(20, 3))
            designs, parts = [], []
            for _ in range(numbers.between(1, 5)):
                places = sorted({numbers.below(20) for _ in range(numbers.between(1, 20))})
                designs.append(some_design(numbers, places))
                parts.append(numbers.between(1, 9))
            parts = [(part, sum(parts)) for part in parts]
            before = copied(parts)
            found = mixed_design(designs, parts)
            self.assertEqual(copied(parts), before)
            expected = [[Fraction(0)] * 3 for _ in range(3)]
            for design, part in zip(designs, parts):
                for row, line in zip(expected, table_of_hand(looks, design)):
                    row[:] = [a + fr(part) * b for a, b in zip(row, line)]
            self.assertEqual(table_of_hand(looks, found), expected)
            self.assertEqual(list(frs(found.places)), sorted({place for d in designs for place in frs(d.places)}))

    def test_sizes(self):
        numbers = Numbers(88)
        bottoms = [abs(numbers.long()[0]) for _ in range(3)]
        designs = [some_design(numbers, [(k, bottom) for k in range(24)]) for bottom in bottoms]
        parts = [(k, sum(bottoms)) for k in bottoms]
        found = mixed_design(designs, parts)
        self.assertEqual(len(found.places), 70)
        expected = {}
        for design, part in zip(designs, parts):
            for place, item in zip(frs(design.places), frs(design.shares)):
                expected[place] = expected.get(place, 0) + item * fr(part)
        self.assertEqual(found.places, pairs_of(sorted(expected)))
        self.assertEqual(found.shares, pairs_of(expected[place] for place in sorted(expected)))

    def test_parts_that_are_none(self):
        one = Design((0, 1), self.HALF)
        for parts in ((), (1,), ((1, 2),), ((1, 2), (1, 3)), (1, 0), (0, 1), (2, -1), ((1, 2), (1, 4), (1, 4)), None, 1,
                      "11", {0: 1, 1: 1}, ((1, 2), None), (self.HALF, self.HALF)):
            expect(self, BadRow, {"row": parts}, mixed_design, (one, one), parts)
        for value in NO_RATIOS:
            parts = [(1, 2), value]
            expect(self, BadRow, {"row": parts}, mixed_design, [one, one], parts)


class OtherNumbers(unittest.TestCase):
    TURNINGS = ([[1, 0], [0, 1]], [[0, 1], [1, 0]], [[-1, 0], [0, 1]], [[(1, 10 ** 9), 0], [0, 10 ** 9]],
                [[1, 10 ** 6], [0, 1]], [[2, 1], [1, (1, 3)]])

    def test_by_hand(self):
        turning = Table([[2, 0], [1, 1]])
        self.assertEqual(turned_rows([[1, 0], (0, 1), [2, 3]], turning),
                         (((1, 2), (0, 1)), ((-1, 2), (1, 1)), ((-1, 2), (3, 1))))
        self.assertEqual(turned_number((2, 3), turning), ((-1, 2), (3, 1)))
        self.assertEqual(turned_table(Table([[1, 0], [0, 1]]), turning).rows, Table([[(1, 2), (-1, 2)], [(-1, 2), 1]]).rows)
        self.assertEqual(turned_rows(((1,),), Table([[(-1, 3)]])), (((-3, 1),),))

    def test_spreads_stay(self):
        numbers = Numbers(84)
        for rows in self.TURNINGS:
            turning = Table(rows)
            looks = numbers.rows(5, 2)
            before = copied(looks)
            design = some_design(numbers, [0, 1, 3, 4])
            table = table_of(Rows(looks), design)
            told = turned_rows(looks, turning)
            self.assertEqual(copied(looks), before)
            self.assertTrue(isinstance(told, tuple) and all(is_pair_row(row, 2) for row in told))
            for row, old in zip(told, frss(looks)):
                self.assertEqual([dotted(frs(row), column) for column in zip(*frss(turning.rows))], old)
            self.assertEqual(table_of(Rows(told), design).rows, turned_table(table, turning).rows)
            for number in ((1, 0), (0, 1), ((1, 3), -2)):
                asked = turned_number(number, turning)
                self.assertTrue(is_pair_row(asked, 2))
                self.assertEqual(spread_of(Rows(told), design, asked), spread_of(Rows(looks), design, number))
                self.assertEqual(pair_of(spread_by_hand(frss(turned_table(table, turning).rows), frs(asked))),
                                 spread_of(Rows(looks), design, number))

    def test_sizes(self):
        numbers = Numbers(85)
        turning = Table([[numbers.long() for _ in range(5)] for _ in range(5)])
        rows = [[numbers.long() for _ in range(5)] for _ in range(40)]
        told = turned_rows(rows, turning)
        columns = list(zip(*frss(turning.rows)))
        for row, old in zip(told[:8], frss(rows)):
            self.assertEqual([dotted(frs(row), column) for column in columns], old)
        self.assertEqual(turned_number(rows[0], turning), told[0])
        table = Table([[1 if i == j else 0 for j in range(5)] for i in range(5)])
        self.assertEqual((turning.turned() * turned_table(table, turning) * turning).rows, table.rows)

    def test_errors_in_their_order(self):
        table = Table([[1, 0], [0, 1]])
        calls = (lambda turning: turned_rows([[1, 2], [3, 4]], turning), lambda turning: turned_number((1, 2), turning),
                 lambda turning: turned_table(table, turning))
        for call in calls:
            for rows in ([[1]], [[0]], [[1, 2]], [[1], [2]], [[1, 2, 3], [2, 4, 6]], [[0] * 3] * 3, [[1, 2, 3]] * 2):
                self.assertEqual(fields_of(self, Unlike, call, Table(rows)), {"what": "sizes"})
            for rows in ([[0, 0], [0, 0]], [[1, 2], [2, 4]], [[1, (1, 3)], [3, 1]]):
                expected = {"what": "determinant", "number": 0}
                self.assertEqual(fields_of(self, BadNumber, call, Table(rows)), expected)


class Mirrors(unittest.TestCase):
    FLIP = Table([[1, 0], [0, -1]])

    def test_there(self):
        self.assertEqual(mirror([[1, 1], [1, -1]], self.FLIP), (1, 0))
        self.assertEqual(mirror(((1, 0), (0, 1)), self.FLIP), (0, 1))
        self.assertEqual(mirror([[1, 2], [-1, 2]], self.FLIP), (1, 0))
        self.assertEqual(mirror([[1, [2, 4]], [(2, 2), (-1, 2)], [0, 0]], self.FLIP), (1, 0, 2))
        self.assertEqual(mirror([[1, 2], [2, 1]], Table([[0, 1], [1, 0]])), (1, 0))
        self.assertEqual(mirror([[1, 0], [0, 1], [-1, 0]], Table([[0, 1], [-1, 0]])), None)
        self.assertEqual(mirror([[1, 0], [0, 1]], Table([[0, 1], [-1, 0]])), (1, 0))
        self.assertEqual(mirror([[3]], Table([[-1]])), (0,))

    def test_rows_that_come_again(self):
        self.assertEqual(mirror([[1, 1], [1, 1], [1, -1], [-1, 1]], self.FLIP), (2, 3, 0, 1))
        self.assertEqual(mirror([[1, 1], [1, -1], [1, 1], [1, -1]], self.FLIP), (1, 0, 3, 2))
        self.assertEqual(mirror([[1, 0], [-1, 0], [1, 0]], self.FLIP), (0, 1, 2))
        self.assertEqual(mirror([[0, 0], [0, 0]], self.FLIP), (0, 1))

    def test_not_there(self):
        self.assertIs(mirror([[1, 1], [1, -1], [1, 1]], self.FLIP), None)
        self.assertIs(mirror([[1, 2]], self.FLIP), None)
        self.assertIs(mirror([[1, 2], [1, -3]], self.FLIP), None)
        self.assertIs(mirror([[1, 0]], Table([[2, 0], [0, 2]])), None)
        self.assertIs(mirror([[1, 0], [0, 1]], Table([[1, (1, 10 ** 12)], [0, 1]])), None)

    def test_a_turning_without_inverse(self):
        self.assertEqual(mirror([[1, 0], [1, 0]], Table([[1, 0], [0, 0]])), (0, 1))
        self.assertEqual(mirror([[0, 0], [0, 0]], Table([[0, 0], [0, 0]])), (0, 1))

    def test_sizes(self):
        numbers = Numbers(86)
        half = [[numbers.long() for _ in range(5)] for _ in range(20)]
        flip = Table([[(-1 if i == 0 else 1) if i == j else 0 for j in range(5)] for i in range(5)])
        rows = half + [[(-row[0][0], row[0][1])] + row[1:] for row in half]
        self.assertEqual(mirror(rows, flip), tuple(range(20, 40)) + tuple(range(20)))


class Evened(unittest.TestCase):
    def test_by_hand(self):
        found = evened(Design((0, 1), ((1, 4), (3, 4))), (1, 0))
        self.assertEqual((found.places, found.shares), (((0, 1), (1, 1)), ((1, 2), (1, 2))))
        found = evened(Design((0, 2), ((1, 4), (3, 4))), (3, 1, 2, 0))
        self.assertEqual((found.places, found.shares), (((0, 1), (2, 1), (3, 1)), ((1, 8), (3, 4), (1, 8))))
        found = evened(Design((5,), (1,)), (5, 4, 3, 2, 1, 0))
        self.assertEqual((found.places, found.shares), (((0, 1), (5, 1)), ((1, 2), (1, 2))))

    def test_sizes(self):
        indices = tuple(range(39, -1, -1))
        parts = [3 ** (k + 50) for k in range(24)]
        design = Design(list(range(24)), [(part, sum(parts)) for part in parts])
        found = evened(design, indices)
        expected = [Fraction(0)] * 40
        for k, part in enumerate(frs(design.shares)):
            expected[k] += part / 2
            expected[39 - k] += part / 2
        self.assertEqual((found.places, found.shares), (tuple((k, 1) for k in range(40)), pairs_of(expected)))

    def test_determinants(self):
        numbers = Numbers(87)
        flip = Table([[1, 0, 0], [0, -1, 0], [0, 0, 1]])
        for _ in range(20):
            half = numbers.rows(4, 3)
            rows = half + [[row[0], (-row[1][0], row[1][1]), row[2]] for row in half]
            indices = mirror(rows, flip)
            self.assertEqual(sorted(indices), list(range(8)))
            design = some_design(numbers, sorted({numbers.below(8) for _ in range(6)}))
            found = evened(design, indices)
            one, other = table_of(Rows(rows), design).det(), table_of(Rows(rows), found).det()
            self.assertTrue(fr(other) >= fr(one))
            expected = [Fraction(0)] * 8
            for place, part in zip(design.places, design.shares):
                expected[place[0]] += fr(part) / 2
                expected[indices[place[0]]] += fr(part) / 2
            told = {place: fr(part) for place, part in zip(found.places, found.shares)}
            self.assertEqual(told, {(k, 1): part for k, part in enumerate(expected) if part})


if __name__ == "__main__":
    unittest.main()
