"""All parts together: one list, asked in many ways, tells the same."""

import unittest
from fractions import Fraction

from bestlooks.counts import Enough, least_many, least_spread, most_det, next_look
from bestlooks.desk import Desk
from bestlooks.lists import best_for, slabs
from bestlooks.looks import Design, Hidden, Rows, can_tell, rank_of, spread_of, table_of
from bestlooks.orders import NoWorse, few_places, greatest_ratio, mixed_design, no_worse, turned_number, turned_rows
from bestlooks.ovals import least_oval, size_of
from bestlooks.ratios import ratio_text
from bestlooks.rivals import best_parting, parting
from bestlooks.spreads import least_sum, worst_direction
from bestlooks.sums import largest
from bestlooks.tables import Table
from bestlooks.wholes import best_whole, never_used, peak, sure_places
from tests.judging import Numbers, fr, frs, pair_of


def some_list(numbers, k, many):
    """A drawn list whose rows span all rows of k ratios."""
    while True:
        looks = Rows(numbers.rows(many, k, 5, 3))
        if rank_of(looks) == k:
            return looks


def line_of(name, looks):
    return f"list {name} = " + " ".join("(" + ", ".join(ratio_text(item) for item in row) + ")" for row in looks.rows)


class OneNumber(unittest.TestCase):
    def test_spreads_sizes_sums(self):
        numbers = Numbers(400)
        for _ in range(12):
            k = numbers.between(1, 3)
            looks = some_list(numbers, k, numbers.between(k, 6))
            c = numbers.row(k, 5, 3)
            if not any(frs(c)):
                continue
            best = best_for(looks, c)
            square = fr(best.size) ** 2
            self.assertEqual(fr(spread_of(looks, best.design, c)), square)
            self.assertEqual(max(abs(sum(a * b for a, b in zip(frs(z), frs(c)))) for z in slabs(looks)), fr(best.size))
            told = least_sum(looks, [c], (1,), 8)
            self.assertTrue(square <= fr(told.total) <= square * Fraction(257, 256))
            # Whole looks: n times the least spread is not below the square of the size.
            for many in (k, k + 2):
                found = least_spread(looks, c, many)
                self.assertTrue(many * fr(found.spread) >= square)
                used = [i for i, count in enumerate(found.counts) if count]
                design = Design(used, [(found.counts[i], many) for i in used])
                self.assertEqual(fr(spread_of(looks, design, c)), many * fr(found.spread))
                enough = least_many(looks, c, found.spread, 12)
                self.assertTrue(type(enough) is Enough and enough.many <= many)
            # The desk says the same of the size.
            text = line_of("l", looks) + "\nnumber c = (" + ", ".join(ratio_text(pair_of(item)) for item in frs(c)) + ")\n"
            desk = Desk(text)
            bound = ratio_text(pair_of(square))
            self.assertEqual(desk.kept("l tells c"), (True, None))
            self.assertEqual(desk.kept(f"no design tells c below {bound} on l"), (True, None))
            more = ratio_text(pair_of(square + Fraction(1, 10 ** 9)))
            found, witness = desk.kept(f"no design tells c below {more} on l")
            self.assertEqual((found, witness.size), (False, best.size))

    def test_turned(self):
        numbers = Numbers(401)
        turning = Table([[2, 1], [1, 1]])
        for _ in range(10):
            looks = some_list(numbers, 2, 5)
            there = Rows(turned_rows(looks.rows, turning))
            c = numbers.row(2, 5, 3)
            asked = turned_number(c, turning)
            self.assertEqual(best_for(looks, c).size, best_for(there, asked).size)
            if any(frs(c)):
                self.assertEqual(least_spread(looks, c, 4).spread, least_spread(there, asked, 4).spread)
            self.assertEqual(most_det(looks, 4).det, most_det(there, 4).det)
            one, other = best_whole(looks, 12), best_whole(there, 12)
            dets = [fr(table_of(rows, told.design).det()) for rows, told in ((looks, one), (there, other))]
            # The turning has the determinant 1, so that the worths are the same but for the gap.
            self.assertTrue(dets[0] * fr(one.over) ** 2 >= dets[1] and dets[1] * fr(other.over) ** 2 >= dets[0])


class AllNumbers(unittest.TestCase):
    def test_determinants(self):
        numbers = Numbers(402)
        for _ in range(12):
            k = numbers.between(1, 3)
            looks = some_list(numbers, k, numbers.between(k, 5))
            whole = best_whole(looks, 12)
            worth = fr(table_of(looks, whole.design).det())
            self.assertTrue(fr(peak(looks, whole.design, 12).number) <= k * fr(whole.over))
            for many in range(k, 6):
                found = most_det(looks, many)
                self.assertTrue(fr(found.det) <= (fr(whole.over) * many) ** k * worth)
                # One look less, and the next one: never more than the greatest.
                at = next(i for i, count in enumerate(found.counts) if count)
                less = [count - (i == at) for i, count in enumerate(found.counts)]
                det, places = next_look(looks, less)
                self.assertEqual((det, at in places), (found.det, True))
            idle = never_used(looks, whole)
            self.assertFalse(set(idle) & {place[0] for place, part in zip(whole.design.places, whole.design.shares) if fr(part) > Fraction(1, 9)})
            if idle and len(idle) < len(looks.rows):
                told = sure_places(looks, idle, 12)
                self.assertFalse({place[0] for place in told.whole.design.places} & set(idle))

    def test_few_places_and_mixtures(self):
        numbers = Numbers(403)
        looks = some_list(numbers, 2, 6)
        whole = best_whole(looks, 12)
        even = Design(list(range(6)), [(1, 6)] * 6)
        mixed = mixed_design([whole.design, even], ((1, 2), (1, 2)))
        few = few_places(looks, mixed)
        self.assertTrue(len(few.places) <= 4)
        self.assertEqual(table_of(looks, few), table_of(looks, mixed))
        self.assertIs(type(no_worse(table_of(looks, few), table_of(looks, mixed))), NoWorse)
        # A mixture with a half of a design has at most twice its spreads.
        told = greatest_ratio(table_of(looks, mixed), table_of(looks, even), 20)
        self.assertTrue(fr(told.upper) <= 2)

    def test_the_worst_direction(self):
        numbers = Numbers(404)
        for _ in range(10):
            k = numbers.between(1, 3)
            looks = some_list(numbers, k, 6)
            told = worst_direction(looks, 8)
            for index in range(k):
                c = [1 if i == index else 0 for i in range(k)]
                if fr(told.least) > 0:
                    self.assertTrue(fr(spread_of(looks, told.design, c)) <= 1 / fr(told.least))
                # No design tells this number worse than the size says, so the least value is at most 1 / size ** 2.
                self.assertTrue(fr(told.least) * fr(best_for(looks, c).size) ** 2 <= 1)

    def test_ovals_are_wholes(self):
        numbers = Numbers(405)
        for _ in range(8):
            points = numbers.rows(6, 2)
            looks = Rows([[1] + point for point in points])
            if rank_of(looks) < 3:
                continue
            worth = fr(table_of(looks, best_whole(looks, 12).design).det())
            size = fr(size_of(least_oval(points, 12).oval))
            # The least size is 4 times the greatest determinant.
            self.assertTrue(abs(size / (4 * worth) - 1) < Fraction(1, 1000))


class Rivals(unittest.TestCase):
    def test_a_row_more(self):
        # The values as one number more, which looks tell just as well as the rival differs from what is there.
        numbers = Numbers(406)
        for _ in range(15):
            k = numbers.between(1, 3)
            many = numbers.between(2, 8)
            rows = Rows(numbers.rows(many, k, 5, 3))
            values = numbers.row(many, 5, 3)
            more = Rows([list(row) + [value] for row, value in zip(rows.rows, values)])
            c = [0] * k + [1]
            told = best_parting(rows, values)
            if fr(told.miss) == 0:
                self.assertIs(type(can_tell(more, c)), Hidden)
                continue
            self.assertEqual(fr(best_for(more, c).size), 1 / fr(told.miss))
            self.assertEqual(fr(spread_of(more, told.design, c)), 1 / fr(told.miss) ** 2)
            design = Design(list(range(many)), [(1, many)] * many)
            self.assertEqual(fr(spread_of(more, design, c)) * fr(parting(rows, values, design)), 1)

    def test_by_sums_of_inequalities(self):
        rows, values = Rows([[1, 0], [1, 1], [1, 2], [1, 4]]), (0, 1, 0, 3)
        miss = fr(best_parting(rows, values).miss)
        lines, right = [], []
        for row, value in zip(rows.rows, values):
            for sign in (1, -1):
                line = [pair_of(sign * fr(item)) for item in row]
                lines.append(line + [pair_of(-fr(item)) for item in line] + [-1])
                right.append(sign * value)
        self.assertEqual(fr(largest(lines, right, [0] * 4 + [-1]).number), -miss)


class TheDesk(unittest.TestCase):
    def test_asked_as_the_parts(self):
        numbers = Numbers(407)
        for _ in range(6):
            looks = some_list(numbers, 2, 4)
            whole = best_whole(looks, 4)
            parts = " ; ".join(ratio_text(part) + " at " + ratio_text(place) for place, part in zip(whole.design.places, whole.design.shares))
            desk = Desk(line_of("l", looks) + f"\ndesign w = {parts}\ndesign e = " + " ; ".join(f"1/4 at {k}" for k in range(4)) + "\nnumber n = (1, -1)\n")
            self.assertEqual(desk.get("w"), whole.design)
            greatest = peak(looks, whole.design, 0)
            self.assertEqual(desk.kept("w caps " + ratio_text(greatest.number) + " on l"), (True, None))
            self.assertIs(desk.kept("w caps " + ratio_text(pair_of(fr(greatest.number) - Fraction(1, 10 ** 9))) + " on l")[0], False)
            spread = spread_of(looks, whole.design, (1, -1))
            desk.keep("w tells n within " + ratio_text(spread) + " on l")
            tables = [table_of(looks, desk.get(name)) for name in ("w", "e")]
            self.assertIs(desk.kept("w beats e on l")[0], type(no_worse(*tables)) is NoWorse)
            self.assertIs(desk.kept("e beats w on l")[0], type(no_worse(*tables[::-1])) is NoWorse)


if __name__ == "__main__":
    unittest.main()
