"""Promises [34], [35] and [40]: all numbers together."""

import unittest
from fractions import Fraction

from bestlooks.errors import BadNumber, Unlike
from bestlooks.looks import Curve, Design, Rows
from bestlooks.polys import Poly
from bestlooks.signs import Capped, Split
from bestlooks.tables import Table
from bestlooks.wholes import Flat, Whole, best_whole, is_best_whole
from tests.judging import ANYTHING, Numbers, dotted, fr, frs, frss, hold_judge, is_judged, is_judged_row, is_pair, pair_of
from tests.judging import in_other_terms, rank_by_hand, remade
from tests.papers import det_by_hand, inverse_by_hand, is_design_on, is_paper, moved_polys, plus_by_hand, powers_of
from tests.papers import table_on, turned, turned_curve, unit
from tests.test_signs import BAD_BITS
from tests.test_telling import rows_enough
from tests.values import NO_RATIOS, copied, expect, fields_of

THIRDS = [[1, 0], [0, 1], [-1, -1]]
TURNINGS = {
    1: ([[3]], [[(-1, 10 ** 9)]]),
    2: ([[1, 0], [0, 1]], [[2, 1], [1, 3]], [[10 ** 5, 1], [0, (1, 10 ** 5)]]),
    3: ([[1, 0, 0], [0, 1, 0], [0, 0, 1]], [[1, 2, 3], [0, 1, 4], [5, 6, 0]], [[(1, 7), 5, 0], [0, 1, 9], [1, 0, 0]]),
    4: ([[1, 0, 0, 0], [3, 1, 0, 0], [0, (1, 3), 1, 0], [2, 0, 7, -5]],),
}


def worth_of(looks, design, taken, amount):
    """The table N and its determinant, by sums of the test's own."""
    many = len(table_on(looks, design))
    known = unit(many, 0) if taken is None else frss(taken.rows)
    table = plus_by_hand(known, table_on(looks, design), fr(amount))
    return table, det_by_hand(table)


def is_right(looks, bits, told, taken=None, amount=1):
    """What [35] says of a told value, by tables and forms of the test's own."""
    rows = rows_enough(looks)
    many = len(rows[0])
    known = unit(many, 0) if taken is None else frss(taken.rows)
    if type(told) is Flat:
        if not is_judged_row(told.z, many) or not any(frs(told.z)):
            return False
        return not any(dotted(row, frs(told.z)) for row in rows + known)
    if type(told) is not Whole or not is_design_on(looks, told.design) or not is_judged(told.over):
        return False
    table, worth = worth_of(looks, told.design, taken, amount)
    if worth == 0 or not 1 <= fr(told.over) <= 1 + Fraction(1, 2 ** bits):
        return False
    back = inverse_by_hand(table)
    rest = sum(dotted(row, line) for row, line in zip(back, known))
    return is_paper(looks, back, (many * fr(told.over) - rest) / fr(amount), told.paper)


class Wholes(unittest.TestCase):
    def holds(self, looks, bits, taken=None, amount=1, best=None):
        before = vars(looks).copy()
        found = best_whole(looks, bits, taken, amount)
        self.assertEqual(vars(looks), before)
        self.assertTrue(is_right(looks, bits, found, taken, amount), vars(found))
        self.assertIs(is_best_whole(looks, bits, found, taken, amount), True)
        rows = rows_enough(looks) + ([] if taken is None else frss(taken.rows))
        self.assertIs(type(found), Whole if rank_by_hand(rows) == len(rows[0]) else Flat)
        if best is not None:
            _, worth = worth_of(looks, found.design, taken, amount)
            self.assertTrue(is_pair(found.over))
            self.assertTrue(worth <= best <= worth * fr(found.over) ** len(rows[0]), (float(worth), float(best)))
        return found

    def turned_ways(self, rows, bits, best):
        for turning in TURNINGS[len(rows[0])]:
            factor = det_by_hand(frss(turning)) ** 2
            for order in (rows, rows[::-1], rows[1:] + rows[:1]):
                self.holds(Rows(turned(order, turning)), bits, best=best * factor)


class Lists(Wholes):
    def test_rows_at_right_angles(self):
        for bits in (0, 1, 5, 12):
            self.turned_ways([[1]], bits, 1)
            self.turned_ways([[5], [-2], [0]], bits, 25)
            self.turned_ways([[1, 0], [0, 1]], bits, Fraction(1, 4))
            self.turned_ways([[3, 4], [4, -3], [1, 1]], bits, Fraction(625, 4))
            self.turned_ways([[1, 0, 0], [0, 1, 0], [0, 0, 1]], bits, Fraction(1, 27))
            self.turned_ways([[1, 0, 0], [0, 2, 0], [0, 0, 3], [0, 1, 0]], bits, Fraction(36, 27))
            self.turned_ways([[1 if i == k else 0 for i in range(4)] for k in range(4)], bits, Fraction(1, 256))

    def test_two_frames(self):
        half = Fraction(1, 4)
        self.turned_ways([[1, 0], [0, 1], [(3, 5), (4, 5)], [(-4, 5), (3, 5)]], 12, half)
        second = [[(1, 3), (2, 3), (2, 3)], [(2, 3), (1, 3), (-2, 3)], [(2, 3), (-2, 3), (1, 3)]]
        self.turned_ways([[1, 0, 0], [0, 1, 0], [0, 0, 1]] + second, 12, Fraction(1, 27))

    def test_three_rows_with_thirds(self):
        for bits in range(13):
            self.turned_ways(THIRDS, bits, Fraction(1, 3))
        # On the oval that the three lie on, and within it.
        self.turned_ways(THIRDS + [[1, 1], [0, -1]], 12, Fraction(1, 3))
        self.turned_ways([[(99, 100), 0]] + THIRDS + [[(99, 100), (99, 100)], [0, 0], [(1, 2), (1, 3)]], 12, Fraction(1, 3))
        # Beyond it by a hundredth, another design is better.
        found = self.holds(Rows(THIRDS + [[1, (-1, 100)]]), 12)
        self.assertTrue(worth_of(Rows(THIRDS + [[1, (-1, 100)]]), found.design, None, 1)[1] > Fraction(1, 3))

    def test_one_place_with_more(self):
        # Two rows and their mean: shares 1/2 and 1/2; longer than the mean by a little, it comes in.
        self.turned_ways([[1, 0], [(1, 2), (1, 2)], [0, 1]], 12, Fraction(1, 4))
        self.turned_ways([[1, 0], [0, 1], [(7, 10), (7, 10)]], 12, Fraction(1, 4))
        # (a, a) with 2 * a * a above 1: shares by hand for a = 1 are thirds.
        self.turned_ways([[1, 0], [0, 1], [1, 1]], 12, Fraction(1, 3))

    def test_flat(self):
        for rows in ([[0]], [[0, 0], [0, 0]], [[1, 2]], [[1, 2], [2, 4], [-3, -6]], [[1, 0, 0], [0, 1, 0], [5, -7, 0]],
                     [[1, 2, 3, 4], [2, 3, 4, 5], [3, 4, 5, 6], [4, 5, 6, 7]]):
            for bits in (0, 12):
                self.assertIs(type(self.holds(Rows(rows), bits)), Flat)

    def test_many(self):
        numbers = Numbers(200)
        for _ in range(40):
            looks = Rows(numbers.rows(numbers.between(1, 12), numbers.between(1, 4)))
            self.holds(looks, numbers.between(0, 12))

    def test_nearly_flat(self):
        self.holds(Rows([[1, 0], [1, (1, 10 ** 39)]]), 12, best=Fraction(1, 4 * 10 ** 78))
        self.holds(Rows([[10 ** 5, 1], [10 ** 5, 2], [10 ** 5, 1]]), 12, best=Fraction(10 ** 10, 4))
        self.holds(Rows([[1, 1, 0], [1, 1, (1, 10 ** 20)], [1, 0, 0], [1, (1, 10 ** 20), 0]]), 12)


class Curves(Wholes):
    # Powers, and the greatest determinant from -1 to 1.
    KNOWN = (((0,), 1), ((0, 1), 1), ((0, 1, 2), Fraction(4, 27)), ((0, 1, 2, 3), Fraction(16, 3125)), ((1,), 1),
             ((0, 2), Fraction(1, 4)), ((1, 2), Fraction(1)))

    def test_known(self):
        for powers, best in self.KNOWN[:-1]:
            for bits in (0, 1, 4, 8, 12):
                self.holds(Curve(-1, 1, powers_of(powers)), bits, best=best)

    def test_any_stretch_turned(self):
        for powers, best in self.KNOWN[:-1]:
            for low, high in ((0, 1), (-20, 20), ((-7, 3), (10 ** 9 + 1, 10 ** 9)), (19, 20)):
                for turning in TURNINGS[len(powers)]:
                    curve = turned_curve(low, high, moved_polys(powers_of(powers), low, high), turning)
                    self.holds(curve, 12, best=best * det_by_hand(frss(turning)) ** 2)

    def test_best_places_that_are_no_ratios(self):
        # x and x * x * x from 0 to 1: the second place is the root of 1/3.
        best = Fraction(1, 4) * Fraction(1, 3) * Fraction(4, 9)
        self.holds(Curve(0, 1, powers_of((1, 3))), 12, best=best)
        self.holds(Curve(-1, 1, powers_of((1, 3))), 12, best=best)

    def test_flat(self):
        x = Poly((0, 1))
        for polys in ((Poly(()),), (x, x), (x, Poly(())), (x, x * x, x + 3 * x * x), (Poly((1,)), Poly((7,)))):
            for bits in (0, 12):
                self.assertIs(type(self.holds(Curve(-1, 2, polys), bits)), Flat)

    def test_many(self):
        numbers = Numbers(201)
        for _ in range(30):
            low = numbers.between(-20, 19)
            polys = [Poly(numbers.row(numbers.between(1, 5))) for _ in range(numbers.between(1, 4))]
            self.holds(Curve(low, numbers.between(low + 1, 20), polys), numbers.between(0, 12))


class Taken(Wholes):
    def test_zeros_are_none(self):
        for looks in (Rows(THIRDS), Curve(-1, 1, powers_of((0, 2)))):
            for taken in (None, Table([[0, 0], [0, 0]])):
                for amount in (1, (1, 100), 100, [7, 3], (2, 2)):
                    best = (Fraction(1, 3) if isinstance(looks, Rows) else Fraction(1, 4)) * fr(amount) ** 2
                    self.holds(looks, 12, taken, amount, best)

    def test_shared_out(self):
        # By hand: what one row has been told already is made up for by the other one.
        looks = Rows([[1, 0], [0, 1]])
        for amount, best in ((1, 1), ((1, 2), (1, 2)), (3, 4), (100, (10201, 4))):
            self.holds(looks, 12, Table([[1, 0], [0, 0]]), amount, fr(best))
        self.holds(looks, 12, Table([[1, 0], [0, 1]]), 1, Fraction(9, 4))
        self.holds(looks, 12, Table([[10 ** 12, 0], [0, (1, 10 ** 12)]]), 1, 10 ** 12 * (1 + Fraction(1, 10 ** 12)))
        for turning in TURNINGS[2]:
            factor = det_by_hand(frss(turning)) ** 2
            table = Table(turning).turned() * Table([[1, 0], [0, 0]]) * Table(turning)
            self.holds(Rows(turned([[1, 0], [0, 1], [1, 0]], turning)), 12, table, 3, 4 * factor)

    def test_one_tells_what_the_other_does_not(self):
        self.holds(Rows([[1, 0]]), 12, Table([[0, 0], [0, 5]]), 1, Fraction(5))
        self.holds(Rows([[1, 0], [2, 0]]), 12, Table([[0, 0], [0, 5]]), (1, 3), Fraction(20, 3))
        self.holds(Curve(0, 1, (Poly((0, 1)), Poly(()))), 12, Table([[0, 0], [0, 7]]), 2, Fraction(14))
        self.assertIs(type(self.holds(Rows([[1, 0]]), 12, Table([[5, 0], [0, 0]]))), Flat)
        self.assertIs(type(self.holds(Rows([[1, 1]]), 12, Table([[2, 2], [2, 2]]))), Flat)
        self.assertIs(type(self.holds(Rows([[0, 0]]), 12, Table([[2, 2], [2, 2]]))), Flat)
        # All was told already: the looks add nothing, or hardly anything.
        self.holds(Rows([[0, 0]]), 12, Table([[2, 1], [1, 2]]), 1, Fraction(3))
        self.holds(Curve(0, 1, (Poly(()), Poly(()))), 12, Table([[2, 1], [1, 2]]), 1, Fraction(3))
        self.holds(Rows([[(1, 10 ** 39), 0]]), 12, Table([[10 ** 12, 1], [1, 10 ** 12]]), (1, 100))

    def test_many(self):
        numbers = Numbers(202)
        for turn in range(40):
            many = numbers.between(1, 4)
            if turn % 2:
                looks = Rows(numbers.rows(numbers.between(1, 12), many))
            else:
                looks = Curve(-1, numbers.between(0, 3), [Poly(numbers.row(numbers.between(1, 4))) for _ in range(many)])
            line = Table(numbers.rows(numbers.between(1, 4), many))
            taken = line.turned() * line
            amount = numbers.one_of(((1, 100), (1, 3), 1, 2, 100))
            self.holds(looks, numbers.between(0, 12), taken, amount)


class Sizes(Wholes):
    def test_long_numbers(self):
        numbers = Numbers(203)
        for many in (2, 4):
            self.holds(Rows([[numbers.long() for _ in range(many)] for _ in range(12)]), 12)
        low, high = (-20 * 10 ** 38 - 9, 10 ** 38), (20 * 10 ** 38 + 7, 10 ** 38)
        self.holds(Curve(low, high, [Poly([numbers.long() for _ in range(5)]) for _ in range(4)]), 12)

    def test_great_values(self):
        numbers = Numbers(204)
        self.holds(Rows([[numbers.between(-10 ** 5, 10 ** 5) for _ in range(4)] for _ in range(12)]), 12)
        polys = [Poly([pair_of(fr(numbers.ratio(10 ** 5, 5)) / 20 ** k / 5) for k in range(5)]) for _ in range(4)]
        self.holds(Curve(-20, 20, polys), 12)

    def test_taken(self):
        numbers = Numbers(205)
        line = Table([[numbers.ratio(10 ** 6, 10 ** 3) for _ in range(4)] for _ in range(4)])
        taken = line.turned() * line
        rows = Rows([[numbers.long() for _ in range(4)] for _ in range(12)])
        curve = Curve(-20, 20, [Poly([numbers.ratio(9, 9) for _ in range(5)]) for _ in range(4)])
        for amount in ((1, 100), 100):
            self.holds(rows, 12, taken, amount)
            self.holds(curve, 12, taken, amount)

    def test_beyond(self):
        self.holds(Rows(THIRDS + [[2, 1]]), 30)
        self.holds(Rows([[1, 0, 0, 0, 0], [0, 1, 0, 0, 0], [0, 0, 1, 0, 0], [0, 0, 0, 1, 1], [0, 0, 0, 1, -1]]), 12)


class IsBestWhole(unittest.TestCase):
    CASES = ((Rows(THIRDS), 3, None, 1), (Rows([[1, 0], [0, 1], [1, 2]]), 12, Table([[1, 0], [0, 0]]), (1, 2)),
             (Rows([[1, 2], [2, 4]]), 2, None, 1), (Rows([[1, 0]]), 2, Table([[1, 0], [0, 0]]), 3),
             (Rows([[1, 0]]), 2, Table([[1, 0], [0, 1]]), 3), (Curve(-1, 1, powers_of((0, 1))), 2, None, 1),
             (Curve(0, 2, powers_of((1,))), 0, Table([[1]]), (1, 2)), (Curve(0, 1, (Poly((1,)), Poly((2,)))), 0, None, 1))

    def test_changed_in_one_thing(self):
        for looks, bits, taken, amount in self.CASES:
            told = best_whole(looks, bits, taken, amount)
            hold_judge(self, lambda value: is_best_whole(looks, bits, value, taken, amount), (), told,
                       lambda value: is_right(looks, bits, value, taken, amount))

    def judged(self, looks, bits, told, right, taken=None, amount=1):
        self.assertIs(is_right(looks, bits, told, taken, amount), right, vars(told))
        self.assertIs(is_best_whole(looks, bits, told, taken, amount), right, vars(told))

    def test_just_within(self):
        # Shares a and 1 - a at rows at right angles: q is 1 / (2 * a) for a below 1/2.
        looks = Rows([[1, 0], [0, 1]])
        little = Fraction(1, 10 ** 12)
        for part in (Fraction(1, 2), Fraction(2, 5), Fraction(49, 100)):
            over = 1 / (2 * part)
            design = Design((0, 1), (pair_of(part), pair_of(1 - part)))
            self.judged(looks, 0, Whole(design, pair_of(over), Capped(None)), True)
            self.judged(looks, 0, Whole(design, pair_of(over + little), Capped(None)), True)
            self.judged(looks, 0, Whole(design, pair_of(over - little), Capped(None)), False)
            moved = Design((0, 1), (pair_of(part - little), pair_of(1 - part + little)))
            self.judged(looks, 0, Whole(moved, pair_of(over), Capped(None)), False)
        design = Design((0, 1), ((2, 5), (3, 5)))
        self.judged(looks, 2, Whole(design, (5, 4), Capped(None)), True)
        self.judged(looks, 3, Whole(design, (5, 4), Capped(None)), False)
        self.judged(looks, 60, Whole(Design((0, 1), ((1, 2), (1, 2))), 1, Capped(None)), True)
        self.judged(looks, 60, Whole(Design((0, 1), ((1, 2), (1, 2))), (2 ** 60 + 1, 2 ** 60), Capped(None)), True)
        self.judged(looks, 60, Whole(Design((0, 1), ((1, 2), (1, 2))), (2 ** 59 + 1, 2 ** 59), Capped(None)), False)
        self.judged(looks, 0, Whole(Design((0, 1), ((1, 2), (1, 2))), pair_of(1 - little), Capped(None)), False)
        self.judged(looks, 0, Whole(Design((0, 1), ((1, 2), (1, 2))), pair_of(2 + little), Capped(None)), False)

    def test_below_one(self):
        # Rows that tell nothing, with all told already: even over 1 leaves the bound 0.
        looks, taken = Rows([[0, 0], [0, 0]]), Table([[1, 0], [0, 1]])
        design = Design((0,), (1,))
        self.judged(looks, 0, Whole(design, 1, Capped(None)), True, taken)
        self.judged(looks, 0, Whole(design, (9, 10), Capped(None)), False, taken)
        self.judged(looks, 0, Whole(design, (3, 2), Capped(None)), True, taken, (1, 3))

    def test_other_places(self):
        looks = Rows([[1, 0], [0, 1], [2, 0]])
        half = ((1, 2), (1, 2))
        self.judged(looks, 0, Whole(Design((1, 2), half), 1, Capped(None)), True)
        for places in ((0, 1), (0, 2), (1, 3), (-1, 1), (1, (5, 2))):
            self.judged(looks, 0, Whole(Design(places, half), 2, Capped(None)), False)
        self.judged(looks, 0, Whole(Design((1,), (1,)), 2, Capped(None)), False)
        curve = Curve(-1, 1, powers_of((0, 1)))
        paper = Capped(Split(Poly((1,)), Poly((1, 0, -1)), ()))
        self.judged(curve, 0, Whole(Design((-1, 1), half), 1, paper), True)
        self.judged(curve, 0, Whole(Design((-1, 1), half), 1, Capped(None)), False)
        self.judged(curve, 0, Whole(Design((-1, 1), half), 1, paper.split), False)
        self.judged(curve, 0, Whole(Design((-2, 1), half), 1, paper), False)
        self.judged(curve, 0, Whole(Design((-1, (1, 2)), half), 2, paper), False)
        self.judged(looks, 0, Whole(Design((1, 2), half), 1, paper), False)

    def test_the_paper_of_another_one(self):
        one, other = best_whole(Curve(-1, 1, powers_of((0, 1))), 5), best_whole(Curve(-1, 1, powers_of((0, 1))), 9)
        for bits in (5, 3, 0):
            self.assertIs(is_best_whole(Curve(-1, 1, powers_of((0, 1))), bits, other), True)
            self.assertIs(is_best_whole(Curve(-1, 1, powers_of((0, 1))), bits, one), True)
            mixed = Whole(one.design, one.over, other.paper)
            self.judged(Curve(-1, 1, powers_of((0, 1))), bits, mixed, False)
        self.assertIs(is_best_whole(Curve(-1, 1, powers_of((0, 1))), 9, one), fr(one.over) <= 1 + Fraction(1, 512))
        self.assertIs(is_best_whole(Rows(THIRDS), 5, one), False)

    def test_flat_ones(self):
        looks = Rows([[1, 2], [2, 4]])
        for z, right in (((2, -1), True), ((-4, 2), True), (((2, 3), (-1, 3)), True), ([2, -1], True), ((0, 0), False),
                         ((2, 1), False), ((2,), False), ((2, -1, 0), False), (None, False), (([2, 1], -1), False)):
            self.judged(looks, 0, Flat(z), right)
        self.judged(looks, 0, Flat((2, -1)), False, Table([[1, 0], [0, 0]]))
        self.judged(looks, 0, Flat((2, -1)), True, Table([[1, 2], [2, 4]]))
        self.judged(Rows(THIRDS), 0, Flat((2, -1)), False)
        # One kind bars the other.
        self.judged(looks, 0, Whole(Design((0,), (1,)), 2, Capped(None)), False)

    def test_of_other_kinds(self):
        looks = Rows(THIRDS)
        told = best_whole(looks, 4)
        for value in ANYTHING + (told.design, told.paper, told.over, vars(told)):
            self.assertIs(is_best_whole(looks, 4, value), False)
        self.assertIs(is_best_whole(looks, 4, in_other_terms(told)), True)
        self.assertIs(is_best_whole(looks, 4, remade(told, lambda item: None)), False)
        self.assertIs(is_best_whole(looks, 4, Whole(told.design, list(told.over), told.paper)), True)
        self.assertIs(is_best_whole(looks, 4, Whole(None, told.over, told.paper)), False)


class Errors(unittest.TestCase):
    LOOKS = (Rows([[1, 0], [0, 1]]), Curve(-1, 1, powers_of((0, 1))))

    def calls(self, looks):
        return (lambda taken, amount, bits: best_whole(looks, bits, taken, amount),
                lambda taken, amount, bits: best_whole(looks, bits, taken=taken, amount=amount),
                lambda taken, amount, bits: is_best_whole(looks, bits, None, taken, amount),
                lambda taken, amount, bits: is_best_whole(looks, bits, Flat((1, 0)), amount=amount, taken=taken))

    def test_in_their_order(self):
        even = Table([[1, 0], [0, 1]])
        for looks in self.LOOKS:
            for call in self.calls(looks):
                for taken in (Table([[1]]), Table([[1, 0]]), Table([[1], [0]]), Table([[1, 2, 3], [2, 1, 0], [3, 0, 1]]),
                              0, [[1, 0], [0, 1]], "x", False, (None,), looks):
                    self.assertEqual(fields_of(self, Unlike, call, taken, 0, None), {"what": "sizes"})
                self.assertEqual(fields_of(self, Unlike, call, Table([[1, 2], [0, 1]]), 0, None), {"what": "even"})
                for amount in NO_RATIOS + (0, -1, (0, 1), (-1, 2), [0, 5]):
                    expect(self, BadNumber, {"what": "amount", "number": amount}, call, even, amount, None)
                    expect(self, BadNumber, {"what": "amount", "number": amount}, call, None, amount, 3)
                for bits in BAD_BITS:
                    expect(self, BadNumber, {"what": "bits", "number": bits}, call, even, 1, bits)
                    expect(self, BadNumber, {"what": "bits", "number": bits}, call, None, (1, 2), bits)
        # Ahead of what is flat, too.
        expect(self, BadNumber, {"what": "bits", "number": 61}, lambda bits: best_whole(Rows([[0]]), bits), 61)

    def test_left_out(self):
        for looks in self.LOOKS:
            told = best_whole(looks, 3)
            self.assertTrue(is_right(looks, 3, told))
            self.assertIs(is_best_whole(looks, 3, told), True)
            taken = Table([[1, 0], [0, 0]])
            told = best_whole(looks, 3, taken)
            self.assertTrue(is_right(looks, 3, told, taken))
            told = best_whole(looks, 3, amount=[3, 2])
            self.assertTrue(is_right(looks, 3, told, None, (3, 2)))
            self.assertIs(is_best_whole(looks, 3, told, amount=(6, 4)), True)


class Kept(unittest.TestCase):
    def test_keep_what_they_are_given(self):
        inner = [1, 2]
        row = [inner, 3]
        for made, names in ((Whole(row, row, row), ["design", "over", "paper"]), (Flat(row), ["z"])):
            self.assertEqual(list(vars(made)), names)
            for value in vars(made).values():
                self.assertIs(type(value), tuple)
                self.assertIs(value[0], inner)
            self.assertTrue(made == made)
            self.assertFalse(made == remade(made, copied))


if __name__ == "__main__":
    unittest.main()
