"""Promises [43], [44] and [45]: the worst direction."""

import unittest
from fractions import Fraction

from bestlooks.errors import BadNumber
from bestlooks.looks import Curve, Design, Rows
from bestlooks.polys import Poly
from bestlooks.signs import Capped, Split
from bestlooks.spreads import Worst, is_worst_direction, worst_direction
from bestlooks.tables import Table
from tests.judging import ANYTHING, Numbers, dotted, fr, frs, frss, hold_judge, is_judged, is_pair, pair_of, rank_by_hand
from tests.papers import is_design_on, is_from_nought, is_paper, moved_polys, plus_by_hand, powers_of, table_on
from tests.papers import unit
from tests.test_signs import BAD_BITS
from tests.test_telling import HANGING, rows_enough
from tests.values import expect

LITTLE = Fraction(1, 10 ** 12)


def is_right(looks, bits, told):
    """What [43] says of a told value, by squares and bounds of the test's own."""
    many = len(rows_enough(looks)[0])
    if type(told) is not Worst or not is_design_on(looks, told.design) or not is_judged(told.least):
        return False
    if fr(told.least) < 0 or not is_judged(told.bound) or type(told.table) is not Table:
        return False
    if (told.table.height, told.table.width) != (many, many):
        return False
    table = frss(told.table.rows)
    if [list(column) for column in zip(*table)] != table or sum(table[k][k] for k in range(many)) != 1:
        return False
    if not is_from_nought(table) or fr(told.bound) > fr(told.least) + Fraction(1, 2 ** bits):
        return False
    if not is_from_nought(plus_by_hand(table_on(looks, told.design), unit(many), -fr(told.least))):
        return False
    return is_paper(looks, table, fr(told.bound), told.paper)


class Worsts(unittest.TestCase):
    def holds(self, looks, bits, least=None):
        found = worst_direction(looks, bits)
        self.assertTrue(is_right(looks, bits, found), (bits, vars(found)))
        self.assertIs(is_worst_direction(looks, bits, found), True)
        self.assertTrue(is_pair(found.least) and is_pair(found.bound))
        if least is not None:
            self.assertTrue(fr(found.least) <= least <= fr(found.bound))
        return found


class Lists(Worsts):
    def test_all_directions_tie(self):
        frames = ([[1, 0], [0, 1]], [[1, 0], [0, 1], [(3, 5), (4, 5)]], [[(3, 5), (4, 5)], [(4, 5), (-3, 5)], [0, -1]],
                  [[1, 0, 0], [0, 1, 0], [0, 0, 1], [(1, 3), (2, 3), (2, 3)]],
                  [[(1, 3), (2, 3), (2, 3)], [(2, 3), (1, 3), (-2, 3)], [(2, 3), (-2, 3), (1, 3)], [(3, 5), (4, 5), 0]],
                  [[1, 0, 0, 0], [0, 1, 0, 0], [0, 0, 1, 0], [0, 0, 0, 1], [(1, 2), (1, 2), (1, 2), (1, 2)]])
        for frame in frames:
            many = len(frame[0])
            for length in (1, 4, 20, (1, 10)):
                looks = Rows([[pair_of(fr(item) * fr(length)) for item in row] for row in frame])
                for bits in range(1, 9):
                    self.holds(looks, bits, fr(length) ** 2 / many)
        self.holds(Rows([[7], [-3]]), 8, Fraction(49))

    def test_right_angles_of_any_length(self):
        # The shares are as 1 / length ** 2: the least value is 1 / (sum of all 1 / length ** 2).
        for lengths in ((1, 2), (1, 2, 3), (20, 1), (5, 5, 1, 20), ((1, 3), 7)):
            rows = [[length if i == k else 0 for i in range(len(lengths))] for k, length in enumerate(lengths)]
            least = 1 / sum(1 / fr(length) ** 2 for length in lengths)
            for bits in (1, 5, 8):
                self.holds(Rows(rows), bits, least)
                self.holds(Rows(rows + [[0] * len(lengths)]), bits, least)

    def test_less_rank(self):
        for rows in ([[0]], [[0, 0]], [[1, 2]], [[1, 2], [2, 4], [-3, -6]], [[1, 0, 0], [0, 1, 0], [5, -7, 0]],
                     [[1, 2, 3, 4], [2, 3, 4, 5], [3, 4, 5, 6]], [[20, 20], [-20, -20]]):
            for bits in (1, 8):
                found = self.holds(Rows(rows), bits, Fraction(0))
                self.assertEqual((found.least, found.bound), ((0, 1), (0, 1)))

    def test_nearly_less_rank(self):
        self.holds(Rows([[1, 1], [1, (10 ** 39 + 1, 10 ** 39)]]), 8)
        self.holds(Rows([[(1, 10 ** 30), 0], [0, (1, 10 ** 20)]]), 8)
        self.holds(Rows([[20, 20, 20], [20, 20, (199, 10)], [20, (199, 10), 20]]), 8)

    def test_many(self):
        numbers = Numbers(230)
        for _ in range(50):
            looks = Rows(numbers.rows(numbers.between(1, 12), numbers.between(1, 4), 20))
            found = self.holds(looks, numbers.between(1, 8))
            if rank_by_hand(frss(looks.rows)) < len(looks.rows[0]):
                self.assertEqual((found.least, found.bound), ((0, 1), (0, 1)))


class Curves(Worsts):
    def test_lines(self):
        # From -s to s: the least of 1 and s * s.
        for s in (Fraction(1, 10), Fraction(1, 2), Fraction(1), Fraction(3, 2), Fraction(20)):
            curve = Curve(pair_of(-s), pair_of(s), powers_of((0, 1)))
            for bits in range(1, 9):
                self.holds(curve, bits, min(Fraction(1), s * s))
            self.holds(Curve(pair_of(-s), pair_of(s), (Poly((0, 1)), Poly((3,)))), 8, min(Fraction(9), s * s))

    def test_powers(self):
        # 1 / the sum of the squares of the numbers of Chebyshev's polynomial of this degree.
        for degree, least in ((0, 1), (1, 1), (2, Fraction(1, 5)), (3, Fraction(1, 25))):
            for bits in (1, 4, 8, 12):
                self.holds(Curve(-1, 1, powers_of(range(degree + 1))), bits, Fraction(least))
            for low, high in ((0, 1), (-20, 20), ((-7, 3), (10 ** 9 + 1, 10 ** 9))):
                polys = moved_polys(powers_of(range(degree + 1)), low, high)
                self.holds(Curve(low, high, polys), 8, Fraction(least))

    def test_less_rank(self):
        x = Poly((0, 1))
        for curve in (HANGING, Curve(0, 1, (Poly(()),)), Curve(-1, 1, (x, x)), Curve(-1, 1, (x, Poly(()), x * x)),
                      Curve(0, 3, (Poly((1,)), Poly((2,))))):
            for bits in (1, 8):
                found = self.holds(curve, bits, Fraction(0))
                self.assertEqual((found.least, found.bound), ((0, 1), (0, 1)))

    def test_many(self):
        numbers = Numbers(231)
        for _ in range(25):
            polys = [Poly(numbers.row(numbers.between(1, 5), 4)) for _ in range(numbers.between(1, 4))]
            self.holds(Curve(-1, numbers.between(0, 1), polys), numbers.between(1, 8))


class Sizes(Worsts):
    def test_long_numbers(self):
        numbers = Numbers(232)
        bottom = numbers.long()[1]

        def within(most):
            return (numbers.long()[0] % (2 * most * bottom) - most * bottom, bottom)

        self.holds(Rows([[within(20) for _ in range(4)] for _ in range(12)]), 8)
        polys = [Poly([pair_of(fr(within(4)) / 20 ** k) for k in range(5)]) for _ in range(4)]
        self.holds(Curve((-10 ** 39 - 1, 10 ** 38), (10 ** 39 + 3, 10 ** 38), polys), 8)

    def test_beyond(self):
        self.holds(Rows([[10 ** 5, 1], [3, 10 ** 5], [7, 7]]), 20)
        self.holds(Rows([[1, 0], [0, 1]]), 60, Fraction(1, 2))
        self.holds(Rows([[1, 0], [0, 1]]), 0, Fraction(1, 2))


class IsWorstDirection(unittest.TestCase):
    CASES = ((Rows([[1, 0], [0, 1]]), 3), (Rows([[1, 2], [2, -1], [0, 1]]), 2), (Rows([[1, 2]]), 1), (Rows([[3]]), 1),
             (Curve(-1, 1, powers_of((0, 1))), 1), (Curve(0, 1, (Poly((1,)), Poly((1,)))), 2))

    def test_changed_in_one_thing(self):
        for looks, bits in self.CASES:
            told = worst_direction(looks, bits)
            hold_judge(self, is_worst_direction, (looks, bits), told, lambda value: is_right(looks, bits, value),
                       (Worst(None, None, None, None, None),))

    def judged(self, looks, bits, told, right):
        self.assertIs(is_right(looks, bits, told), right, vars(told))
        self.assertIs(is_worst_direction(looks, bits, told), right, vars(told))

    def test_just_within(self):
        looks, half = Rows([[1, 0], [0, 1]]), Table([[(1, 2), 0], [0, (1, 2)]])
        design, paper = Design((0, 1), ((1, 2), (1, 2))), Capped(None)
        for bits in (0, 1, 8, 60):
            gap = Fraction(1, 2 ** bits)
            self.judged(looks, bits, Worst(design, (1, 2), half, (1, 2), paper), True)
            self.judged(looks, bits, Worst(design, (2, 4), half, pair_of(Fraction(1, 2) + gap), paper), True)
            self.judged(looks, bits, Worst(design, (1, 2), half, pair_of(Fraction(1, 2) + gap + LITTLE), paper), False)
            self.judged(looks, bits, Worst(design, pair_of(Fraction(1, 2) + LITTLE), half, (1, 2), paper), False)
            self.judged(looks, bits, Worst(design, (1, 2), half, pair_of(Fraction(1, 2) - LITTLE), paper), False)
            moved = Design((0, 1), (pair_of(Fraction(1, 2) + LITTLE), pair_of(Fraction(1, 2) - LITTLE)))
            self.judged(looks, bits, Worst(moved, (1, 2), half, (1, 2), paper), False)
        self.judged(looks, 1, Worst(design, 0, half, (1, 2), paper), True)
        self.judged(looks, 2, Worst(design, 0, half, (1, 2), paper), False)
        self.judged(looks, 0, Worst(design, (-1, 4), half, (1, 2), paper), False)

    def test_wrong_ones(self):
        looks, design, paper = Rows([[1, 0], [0, 1]]), Design((0, 1), ((1, 2), (1, 2))), Capped(None)
        self.judged(looks, 3, Worst(design, (1, 2), Table([[(1, 2), (1, 2)], [(1, 2), (1, 2)]]), (1, 2), paper), True)
        self.judged(looks, 3, Worst(design, (1, 2), Table([[(1, 2), (1, 3)], [(1, 3), (1, 2)]]), (1, 2), paper), True)
        for rows in ([[(1, 2), (501, 1000)], [(501, 1000), (1, 2)]], [[1, 0], [0, 0]], [[(1, 2), (1, 4)], [0, (1, 2)]],
                     [[(1, 3), 0], [0, (1, 3)]], [[(2, 3), 0], [0, (2, 3)]], [[1]], [[(1, 2), 0, 0], [0, (1, 2), 0]],
                     [[(1, 2), 0, 0], [0, (1, 2), 0], [0, 0, 0]], [[2, 0], [0, -1]]):
            self.judged(looks, 3, Worst(design, (1, 2), Table(rows), (1, 2), paper), False)
        half = Table([[(1, 2), 0], [0, (1, 2)]])
        for told in (Worst(design, (1, 2), half.rows, (1, 2), paper), Worst(design, (1, 2), half, (1, 2), None),
                     Worst(None, (1, 2), half, (1, 2), paper), Worst(Design((0, 2), ((1, 2), (1, 2))), 0, half, (1, 8), paper),
                     Worst(design, (1, 2), half, (1, 2), Capped(Split(Poly((1,)), Poly((1,)), ()))),
                     Worst(design, True, half, (1, 2), paper), Worst(design, (1, 2), half, None, paper)):
            self.judged(looks, 3, told, False)
        flat = Rows([[1, 1]])
        lost = Table([[(1, 2), (-1, 2)], [(-1, 2), (1, 2)]])
        self.judged(flat, 60, Worst(Design((0,), (1,)), 0, lost, 0, Capped(None)), True)
        self.judged(flat, 60, Worst(Design((0,), (1,)), 0, lost, pair_of(Fraction(1, 2 ** 60)), Capped(None)), True)
        self.judged(flat, 60, Worst(Design((0,), (1,)), (1, 2 ** 61), lost, (1, 2 ** 61), Capped(None)), False)

    def test_of_other_kinds(self):
        for value in ANYTHING:
            self.assertIs(is_worst_direction(Rows([[1]]), 3, value), False)

    def test_bits(self):
        for looks in (Rows([[1, 0], [0, 1]]), Rows([[0]]), Curve(0, 1, powers_of((0,)))):
            for bits in BAD_BITS:
                expect(self, BadNumber, {"what": "bits", "number": bits}, worst_direction, looks, bits)
                expect(self, BadNumber, {"what": "bits", "number": bits}, is_worst_direction, looks, bits, None)

    def test_no_design_is_better(self):
        # [43]: drawn designs have no least value above the bound; [44]: one row z will mostly not do where two tie.
        numbers = Numbers(233)
        for _ in range(10):
            looks = Rows(numbers.rows(6, 2, 20))
            told = worst_direction(looks, 6)
            parts = [numbers.between(1, 9) for _ in range(6)]
            design = Design(list(range(6)), [(part, sum(parts)) for part in parts])
            table = plus_by_hand(table_on(looks, design), unit(2), -fr(told.bound) - LITTLE)
            self.assertFalse(is_from_nought(table))
        for z in ((1, 0), (0, 1), (1, 1), (3, -4)):
            by = sum(item * item for item in z)
            table = Table([[(a * b, by) for a in z] for b in z])
            best = max(dotted(frs(z), frs(row)) ** 2 / by for row in ([1, 0], [0, 1], [(3, 5), (4, 5)], [(-4, 5), (3, 5)]))
            self.assertTrue(best > Fraction(1, 2))
            self.assertEqual(sum(fr(table.rows[k][k]) for k in range(2)), 1)


class Kept(unittest.TestCase):
    def test_keep_what_they_are_given(self):
        inner = [1, 2]
        row = [inner, 3]
        made = Worst(row, row, row, row, row)
        self.assertEqual(list(vars(made)), ["design", "least", "table", "bound", "paper"])
        for value in vars(made).values():
            self.assertIs(type(value), tuple)
            self.assertIs(value[0], inner)
        self.assertTrue(made == made)


if __name__ == "__main__":
    unittest.main()
