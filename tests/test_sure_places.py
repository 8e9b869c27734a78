"""Promises [36] to [40]: peaks, places that are never used, places that each best design needs."""

import unittest
from fractions import Fraction

from bestlooks.errors import BadNumber, BadRow, Unlike
from bestlooks.looks import Curve, Design, Rows
from bestlooks.polys import Poly
from bestlooks.signs import Capped
from bestlooks.wholes import Flat, Peak, Spare, Sure, Whole, best_whole, is_best_whole, is_sure, never_used, peak
from bestlooks.wholes import sure_places
from tests.judging import Numbers, form_by_hand, fr, frs, frss, hold_judge, is_pair, pair_of, pairs_of, rank_by_hand
from tests.papers import det_by_hand, form_poly, inverse_by_hand, is_design_on, powers_of, table_on, turned
from tests.test_looks import row_by_hand, value_at
from tests.test_signs import BAD_BITS
from tests.test_telling import is_there
from tests.test_wholes import THIRDS, TURNINGS, is_right
from tests.values import NO_RATIOS, copied, expect, fields_of


def heights(looks, design):
    """r M ** -1 r of all rows of a list."""
    back = inverse_by_hand(table_on(looks, design))
    return [form_by_hand(back, row) for row in frss(looks.rows)]


def some_design(numbers, places):
    parts = [numbers.between(1, 9) for _ in places]
    return Design(places, [(part, sum(parts)) for part in parts])


class Peaks(unittest.TestCase):
    def on_a_list(self, looks, design, bits):
        found = peak(looks, design, bits)
        expected = heights(looks, design)
        self.assertIs(type(found), Peak)
        self.assertEqual(found.number, pair_of(max(expected)))
        self.assertEqual(found.place, (expected.index(max(expected)), 1))

    def test_lists(self):
        looks = Rows(THIRDS + [[1, 1], [0, 0], [-1, 0], [0, 1]])
        for bits in (0, 7, 60):
            self.on_a_list(looks, Design((0, 1, 2), ((1, 3),) * 3), bits)
            self.on_a_list(looks, Design((0, 1), ((1, 2),) * 2), bits)
            self.on_a_list(looks, Design((1, 2), ((1, 10 ** 12), (10 ** 12 - 1, 10 ** 12))), bits)
        numbers = Numbers(210)
        for _ in range(30):
            many = numbers.between(1, 4)
            looks = Rows(numbers.rows(numbers.between(many, 12), many))
            design = some_design(numbers, sorted({numbers.below(len(looks.rows)) for _ in range(9)}))
            if det_by_hand(table_on(looks, design)):
                self.on_a_list(looks, design, numbers.between(0, 12))
            else:
                self.assertIs(peak(looks, design, 3), None)

    def test_the_first_of_several(self):
        looks = Rows([[1, 0], [0, 1], [2, 0], [0, -2], [-2, 0], [0, 2]])
        found = peak(looks, Design((0, 1), ((1, 2), (1, 2))), 4)
        self.assertEqual((found.number, found.place), ((8, 1), (2, 1)))
        found = peak(looks, Design((1, 2), ((1, 2), (1, 2))), 4)
        self.assertEqual((found.number, found.place), ((8, 1), (3, 1)))
        found = peak(Rows([[1], [1], [1]]), Design((2,), (1,)), 0)
        self.assertEqual((found.number, found.place), ((1, 1), (0, 1)))

    def on_a_curve(self, curve, design, bits):
        """The number is a bound by a paper of the test's own, and less by the gap none: the place shows it."""
        found = peak(curve, design, bits)
        gap = Fraction(1, 2 ** bits)
        back = inverse_by_hand(table_on(curve, design))
        self.assertTrue(is_pair(found.number) and is_pair(found.place) and is_there(curve, found.place))
        self.assertEqual((fr(found.number) / gap).denominator, 1)
        value = form_by_hand(back, row_by_hand(curve, found.place))
        self.assertTrue(fr(found.number) - gap < value <= fr(found.number))
        poly = Poly(pairs_of(form_poly(curve, back)))
        low, high = fr(curve.low), fr(curve.high)
        for k in range(201):
            self.assertTrue(value_at(poly, low + (high - low) * k / 200) <= fr(found.number))
        return found

    def test_curves(self):
        line = Curve(-1, 1, powers_of((0, 1)))
        for bits in range(13):
            found = self.on_a_curve(line, Design((-1, 1), ((1, 2), (1, 2))), bits)
            self.assertEqual(found.number, (2, 1))
            # 1 / (4 * a * (1 - a)) * ... by hand: at shares 1/4 and 3/4 the peak at -1 is 4.
            self.assertEqual(self.on_a_curve(line, Design((-1, 1), ((1, 4), (3, 4))), bits).number, (4, 1))
        square = Curve(-1, 1, powers_of((0, 1, 2)))
        found = self.on_a_curve(square, Design((-1, 0, 1), ((1, 3),) * 3), 12)
        self.assertEqual(found.number, (3, 1))
        # Just the greatest value is no multiple of the gap: the next one is told.
        found = self.on_a_curve(square, Design((-1, 0, 1), ((1, 5), (3, 5), (1, 5))), 12)
        self.assertEqual(found.number, (5, 1))
        found = self.on_a_curve(square, Design((-1, 0, 1), ((3, 7), (1, 7), (3, 7))), 3)
        self.assertEqual(found.number, (7, 1))
        found = self.on_a_curve(line, Design((-1, 1), ((1, 3), (2, 3))), 1)
        self.assertEqual(found.number, (3, 1))
        found = self.on_a_curve(Curve(0, 1, powers_of((0,))), Design((0,), (1,)), 5)
        self.assertEqual(found.number, (1, 1))
        found = self.on_a_curve(Curve(0, 1, (Poly((1, (1, 3))),)), Design((0,), (1,)), 2)
        self.assertEqual(found.number, (2, 1))

    def test_drawn_curves(self):
        numbers = Numbers(211)
        for _ in range(15):
            many = numbers.between(1, 4)
            curve = Curve(-2, 3, [Poly(numbers.row(5)) for _ in range(many)])
            places = sorted({pair_of(Fraction(numbers.between(-20, 30), 10)) for _ in range(6)}, key=fr)
            design = some_design(numbers, places)
            if det_by_hand(table_on(curve, design)):
                self.on_a_curve(curve, design, numbers.between(0, 12))

    def test_none(self):
        for looks in (Rows(THIRDS), Curve(0, 2, powers_of((0, 1)))):
            for place in (0, 1, 2):
                self.assertIs(peak(looks, Design((place,), (1,)), 3), None)
        self.assertIs(peak(Rows([[1, 2], [2, 4]]), Design((0, 1), ((1, 2), (1, 2))), 3), None)

    def test_errors(self):
        for looks in (Rows(THIRDS), Curve(0, 2, powers_of((0, 1)))):
            for places in ((3,), (-1, 0), (0, 1, 4)):
                design = Design(places, [(1, len(places))] * len(places))
                self.assertEqual(fields_of(self, Unlike, peak, looks, design, None), {"what": "place"})
            for bits in BAD_BITS:
                for design in (Design((0, 1), ((1, 2), (1, 2))), Design((0,), (1,))):
                    expect(self, BadNumber, {"what": "bits", "number": bits}, peak, looks, design, bits)
        self.assertEqual(fields_of(self, Unlike, peak, Rows(THIRDS), Design(((1, 2),), (1,)), 3), {"what": "place"})

    def test_sizes(self):
        numbers = Numbers(212)
        looks = Rows([[numbers.long() for _ in range(4)] for _ in range(12)])
        self.on_a_list(looks, some_design(numbers, [0, 1, 4, 7, 8, 10, 11]), 12)
        curve = Curve(-20, 20, [Poly([numbers.long() for _ in range(5)]) for _ in range(4)])
        places = sorted([pair_of(fr(numbers.long()) % 20) for _ in range(6)], key=fr)
        self.on_a_curve(curve, some_design(numbers, places), 12)


class NeverUsed(unittest.TestCase):
    def by_hand(self, looks, told):
        many = len(looks.rows[0])
        more = many * (fr(told.over) - 1)
        found = []
        for k, height in enumerate(heights(looks, told.design)):
            s = 2 * many + many * more - 2 * height
            if s > 0 and s * s > many * more * (4 * many + many * more - 4):
                found.append(k)
        return tuple(found)

    def test_known(self):
        looks = Rows(THIRDS + [[1, 1], [(1, 2), 0], [0, 0], [(99, 100), 0], [(9999, 10000), 0]])
        exact = Whole(Design((0, 1, 2), ((1, 3),) * 3), 1, Capped(None))
        self.assertEqual(never_used(looks, exact), (4, 5, 6, 7))
        self.assertEqual(never_used(looks, Whole(exact.design, (1001, 1000), Capped(None))), (4, 5))
        self.assertEqual(never_used(looks, Whole(exact.design, 2, Capped(None))), (4, 5))
        self.assertEqual(never_used(Rows([[1, 0], [0, 1], [(9, 10), 0]]), Whole(Design((0, 1), ((1, 2), (1, 2))), 2, None)), ())
        self.assertEqual(never_used(Rows([[2], [1], [-2], [0]]), Whole(Design((0,), (1,)), (1, 1), Capped(None))), (1, 3))

    def test_by_the_sums(self):
        numbers = Numbers(213)
        many = 0
        for bits in list(range(13)) * 3:
            wide = numbers.between(1, 4)
            looks = Rows(numbers.rows(numbers.between(wide, 12), wide))
            if rank_by_hand(frss(looks.rows)) < wide:
                continue
            told = best_whole(looks, bits)
            found = never_used(looks, told)
            self.assertEqual(found, self.by_hand(looks, told))
            self.assertTrue(all(type(k) is int for k in found))
            many += len(found)
            for over in ((told.over[0] * 3, told.over[1] * 3), (2, 1), list(told.over)):
                other = Whole(told.design, over, told.paper)
                self.assertEqual(never_used(looks, other), self.by_hand(looks, other))
        self.assertTrue(many > 20)

    def test_never_a_place_that_is_used(self):
        rows = THIRDS + [[(9, 10), 0], [0, (1, 2)], [(1, 3), (1, 3)]]
        for turning in TURNINGS[2]:
            looks = Rows(turned(rows, turning))
            for bits in range(13):
                found = never_used(looks, best_whole(looks, bits))
                self.assertFalse({0, 1, 2} & set(found))
            self.assertEqual(found, (3, 4, 5))

    def test_at_the_edge(self):
        # v is 81/50 at the third row: with t = 4 - 2 * v, the bound (t + 2 * e) ** 2 > 8 * e + 4 * e * e is just met by
        # e = t * t / (8 - 4 * t), e being 2 * (over - 1).
        design = Design((0, 1), ((1, 2), (1, 2)))
        looks = Rows([[1, 0], [0, 1], [(9, 10), 0]])
        t = Fraction(4) - 2 * Fraction(162, 100)
        over = 1 + t * t / (8 - 4 * t) / 2
        little = Fraction(1, 10 ** 12)
        for part, expected in ((0, ()), (-little, (2,)), (little, ())):
            self.assertEqual(never_used(looks, Whole(design, pair_of(over + part), Capped(None))), expected)
        # s must be above 0 itself: here it is not, though its square is great.
        looks = Rows([[1, 0], [0, 1], [3, 0], [2, 0]])
        self.assertEqual(never_used(looks, Whole(design, 1, Capped(None))), ())

    def test_sizes(self):
        numbers = Numbers(214)
        looks = Rows([[numbers.long() for _ in range(4)] for _ in range(12)])
        told = best_whole(looks, 12)
        self.assertEqual(never_used(looks, told), self.by_hand(looks, told))


def rest_of(rows, indices):
    return Rows([row for k, row in enumerate(rows.rows) if k not in indices])


def is_right_sure(rows, indices, bits, told):
    """What [38] says of a told value, by determinants of the test's own."""
    if type(told) is Spare:
        if not is_right(rows, bits, told.whole) or type(told.whole) is not Whole:
            return False
        return not any(fr(place) in indices for place in told.whole.design.places)
    if type(told) is not Sure or not is_design_on(rows, told.design):
        return False
    left = rest_of(rows, indices)
    if not is_right(left, 0, told.rest):
        return False
    worth = det_by_hand(table_on(rows, told.design))
    if type(told.rest) is Flat:
        return worth > 0
    return worth > fr(told.rest.over) ** len(rows.rows[0]) * det_by_hand(table_on(left, told.rest.design))


class SurePlaces(unittest.TestCase):
    def holds(self, rows, indices, bits, kind=None):
        before = copied(indices)
        found = sure_places(rows, indices, bits)
        self.assertEqual(copied(indices), before)
        self.assertTrue(is_right_sure(rows, indices, bits, found), (indices, bits, vars(found)))
        self.assertIs(is_sure(rows, indices, bits, found), True)
        if kind is not None:
            self.assertIs(type(found), kind)
        return found

    def test_known(self):
        looks = Rows(THIRDS + [[(1, 2), 0], [1, 0], [0, 0]])
        for bits in (0, 1, 6, 12):
            for indices in ((3,), (5,), (3, 5), (0,), (4,), [0, 3, 5]):
                self.holds(looks, indices, bits, Spare if 0 not in indices and bits > 5 else None)
            for indices in ((1,), (2,), (0, 4), (1, 2), (0, 1, 2, 3, 4), (1, 3), [0, 4, 5]):
                self.holds(looks, indices, bits, Sure if bits > 5 else None)

    def test_rests_that_are_flat(self):
        looks = Rows([[1, 0], [0, 1], [0, 2], [0, 0]])
        for indices in ((0,), (1, 2), (0, 1), (0, 1, 2), (0, 3)):
            for bits in (0, 12):
                found = self.holds(looks, indices, bits, Sure)
                self.assertIs(type(found.rest), Flat)
        # The lesser of two rows that tell the same is spared.
        self.holds(looks, (1,), 12, Spare)
        self.holds(looks, (2,), 12, Sure)

    def test_either_where_both_can_be_told(self):
        # The row without which the others lose but a little: within the gap at few bits, not so at many.
        looks = Rows([[1, 0], [0, 1], [(1001, 1000), 0]])
        for bits in range(13):
            self.holds(looks, (2,), bits, Sure if bits > 8 else None)
        for top in (10 ** 5 + 1, 10 ** 4 + 1):
            looks = Rows([[1, 0], [0, 1], [(top, top - 1), 0]])
            for bits in (0, 8, 12):
                self.holds(looks, (2,), bits)
        # A row by which the greatest spread is just too great by the gap.
        over = 1 + Fraction(1, 4096)
        for little in (0, Fraction(1, 10 ** 9), -Fraction(1, 10 ** 9)):
            square = 2 * over + little
            top = Fraction(int((square * 10 ** 24) ** Fraction(1, 2)), 10 ** 12)
            looks = Rows([[1, 0], [0, 1], [pair_of(top / 2), pair_of(top / 2)]])
            self.holds(looks, (2,), 12)

    def test_drawn(self):
        numbers = Numbers(215)
        kinds = {Sure: 0, Spare: 0}
        for _ in range(50):
            many = numbers.between(1, 4)
            looks = Rows(numbers.rows(numbers.between(max(2, many), 12), many))
            if rank_by_hand(frss(looks.rows)) < many:
                continue
            count = len(looks.rows)
            indices = sorted({numbers.below(count) for _ in range(numbers.between(1, 4))})
            if len(indices) < count:
                kinds[type(self.holds(looks, indices, numbers.between(0, 12)))] += 1
        self.assertTrue(min(kinds.values()) > 5, kinds)

    def test_sizes(self):
        numbers = Numbers(216)
        looks = Rows([[numbers.long() for _ in range(4)] for _ in range(12)])
        used = [place[0] for place in best_whole(looks, 12).design.places]
        for indices in (used[:1], used, [k for k in range(12) if k not in used], list(range(11))):
            self.holds(looks, indices, 12)

    def test_indices(self):
        looks = Rows(THIRDS)
        for indices in ((), [], (0, 1, 2), (1, 0), (0, 0), (3,), (-1,), (0, 3), (-1, 0), ((0, 1),), ((1, 1), 2), (0, (1, 1)),
                        (True,), (0, True), (False, 1), None, 0, 1, "0", {0: 1}, {0}, range(1), (None,), ((0,),), (0.0,),
                        (0, 1, 2, 3), Design((0,), (1,))):
            for bits in (None, 3):
                expect(self, BadRow, {"row": indices}, sure_places, looks, indices, bits)
                expect(self, BadRow, {"row": indices}, is_sure, looks, indices, bits, None)
        for value in NO_RATIOS:
            indices = [0, value]
            expect(self, BadRow, {"row": indices}, sure_places, looks, indices, 3)
        expect(self, BadRow, {"row": (0,)}, sure_places, Rows([[1]]), (0,), 3)

    def test_errors_in_their_order(self):
        flat = Rows([[1, 2], [2, 4]])
        for looks in (Rows(THIRDS), flat):
            for bits in BAD_BITS:
                expect(self, BadNumber, {"what": "bits", "number": bits}, sure_places, looks, (0,), bits)
                expect(self, BadNumber, {"what": "bits", "number": bits}, is_sure, looks, [1], bits, None)
        for indices in ((0,), [1]):
            self.assertEqual(fields_of(self, Unlike, sure_places, flat, indices, 3), {"what": "rank"})
            self.assertEqual(fields_of(self, Unlike, is_sure, flat, indices, 3, Sure(None, None)), {"what": "rank"})


class IsSure(unittest.TestCase):
    LOOKS = Rows(THIRDS + [[(1, 2), 0]])

    def test_changed_in_one_thing(self):
        for rows, indices, bits in ((self.LOOKS, (0,), 6), (self.LOOKS, [3], 6), (self.LOOKS, (1, 3), 0),
                                    (Rows([[1, 0], [0, 1]]), (1,), 3), (Rows([[3], [2]]), (0,), 4)):
            told = sure_places(rows, indices, bits)
            hold_judge(self, is_sure, (rows, indices, bits), told,
                       lambda value: is_right_sure(rows, indices, bits, value), (Sure(None, None), Spare(None)))

    def judged(self, rows, indices, bits, told, right):
        self.assertIs(is_right_sure(rows, indices, bits, told), right)
        self.assertIs(is_sure(rows, indices, bits, told), right)

    def test_just_better(self):
        # Rows at right angles, one of them told twice with lengths 1 and 1 + a: the worth is by (1 + a) ** 2 greater.
        half = ((1, 2), (1, 2))
        rest = Whole(Design((0, 1), half), (11, 10), Capped(None))
        design = Design((1, 2), half)
        for top, right in ((10, False), (11, False), (12, True)):
            self.judged(Rows([[1, 0], [0, 1], [(top, 10), 0]]), (2,), 12, Sure(design, rest), right)
        for little, right in ((Fraction(1, 10 ** 9), True), (Fraction(0), False), (-Fraction(1, 10 ** 9), False)):
            looks = Rows([[1, 0], [0, 1], [pair_of(Fraction(11, 10) + little), 0]])
            self.judged(looks, (2,), 12, Sure(design, rest), right)
            self.judged(looks, (2,), 0, Sure(design, Whole(Design((0, 1), half), (21, 10), Capped(None))), False)
            self.judged(looks, (2,), 0, Sure(design, Whole(Design((1, 2), half), (11, 10), Capped(None))), False)

    def test_spares(self):
        whole = best_whole(self.LOOKS, 6)
        self.assertEqual([place[0] for place in whole.design.places], [0, 1, 2])
        for indices, right in (((3,), True), ((0,), False), ((2, 3), False), ((1,), False)):
            self.judged(self.LOOKS, indices, 6, Spare(whole), right)
        coarse = Whole(whole.design, (129, 128), Capped(None))
        self.judged(self.LOOKS, (3,), 6, Spare(coarse), True)
        self.judged(self.LOOKS, (3,), 8, Spare(coarse), False)
        self.judged(self.LOOKS, (3,), 6, Spare(Flat((0, 0))), False)
        self.judged(self.LOOKS, (3,), 6, Sure(whole.design, best_whole(Rows(THIRDS), 6)), False)
        self.judged(self.LOOKS, (0,), 6, Sure(whole.design, best_whole(rest_of(self.LOOKS, (0,)), 6)), True)
        self.judged(self.LOOKS, (0,), 6, Sure(whole.design, best_whole(self.LOOKS, 6)), False)
        self.judged(self.LOOKS, (0,), 6, Sure(Design((0, 4), ((1, 2), (1, 2))), best_whole(Rows(THIRDS), 6)), False)
        self.assertTrue(is_best_whole(self.LOOKS, 6, whole))

    def test_both_are_right(self):
        # A row that is longer by a thousandth: spared within a gap of 1/16, and still each best design has it.
        looks, half = Rows([[1, 0], [0, 1], [(1001, 1000), 0]]), ((1, 2), (1, 2))
        without = Design((0, 1), half)
        self.judged(looks, (2,), 4, Spare(Whole(without, (17, 16), Capped(None))), True)
        self.judged(looks, (2,), 4, Sure(Design((1, 2), half), Whole(without, 1, Capped(None))), True)
        self.judged(looks, (2,), 4, Sure(Design((1, 2), half), Whole(without, (17, 16), Capped(None))), False)
        self.judged(looks, (2,), 12, Spare(Whole(without, (4097, 4096), Capped(None))), False)

    def test_flat_rests(self):
        looks = Rows([[1, 0], [0, 1], [0, 2]])
        self.judged(looks, (0,), 3, Sure(Design((0, 1), ((1, 9), (8, 9))), Flat((1, 0))), True)
        self.judged(looks, (0,), 3, Sure(Design((0,), (1,)), Flat((1, 0))), False)
        self.judged(looks, (0,), 3, Sure(Design((0, 1), ((1, 9), (8, 9))), Flat((0, 1))), False)
        self.judged(looks, (1,), 3, Sure(Design((0, 1), ((1, 9), (8, 9))), Flat((1, 0))), False)


class Facts(unittest.TestCase):
    def test_a_share_moved(self):
        # [39]: the factor by which the determinant changes.
        numbers = Numbers(217)
        for _ in range(10):
            looks = Rows(numbers.rows(5, 3))
            design = some_design(numbers, list(range(5)))
            table = table_on(looks, design)
            back = inverse_by_hand(table)
            if back is None:
                continue
            v = heights(looks, design)
            i, j, part = 1, 3, fr(design.shares[3]) / 2
            shares = frs(design.shares)
            shares[i], shares[j] = shares[i] + part, shares[j] - part
            w = sum(a * sum(b * c for b, c in zip(row, frs(looks.rows[j]))) for a, row in zip(frs(looks.rows[i]), back))
            factor = 1 + part * (v[i] - v[j]) - part * part * (v[i] * v[j] - w * w)
            moved = Design(design.places, pairs_of(shares))
            self.assertEqual(det_by_hand(table_on(looks, moved)), factor * det_by_hand(table))


class Kept(unittest.TestCase):
    def test_keep_what_they_are_given(self):
        inner = [1, 2]
        row = [inner, 3]
        for made, names in ((Peak(row, row), ["number", "place"]), (Sure(row, row), ["design", "rest"]),
                            (Spare(row), ["whole"])):
            self.assertEqual(list(vars(made)), names)
            for value in vars(made).values():
                self.assertIs(type(value), tuple)
                self.assertIs(value[0], inner)
            self.assertTrue(made == made)


if __name__ == "__main__":
    unittest.main()
