"""Promises [24], [25] and [28]: all numbers at once on a list, and a number that moves."""

import unittest
from fractions import Fraction
from itertools import combinations, product

from bestlooks.errors import BadRow, Unlike
from bestlooks.lists import along, best_for, needed, slabs
from bestlooks.looks import Hidden, Rows, can_tell
from tests.judging import Numbers, dotted, fr, frs, frss, is_pair, is_pair_row, pairs_of, rank_by_hand
from tests.judging import solve_by_hand
from tests.test_lists import BAD_ROWS, FLAT, LIST, chebyshev_rows
from tests.values import NO_RATIOS, expect, fields_of


def slabs_by_hand(rows):
    """All rows z of [24], by trying all choices of rows and signs."""
    lines = frss(rows)
    k = len(lines[0])
    found = set()
    for chosen in combinations(lines, k):
        if rank_by_hand(chosen) < k:
            continue
        for signs in product((1, -1), repeat=k):
            z = solve_by_hand(chosen, [Fraction(sign) for sign in signs])
            if all(abs(dotted(z, line)) <= 1 for line in lines) and next(item for item in z if item) > 0:
                found.add(tuple(z))
    return tuple(pairs_of(z) for z in sorted(found))


def size(rows, c):
    return fr(best_for(rows, pairs_of(c)).size)


def needed_by_hand(rows):
    """What [24] says of the rows that are needed, by best_for of the rest."""
    lines = rows.rows
    found = []
    for k, line in enumerate(lines):
        same = (frs(line), [-item for item in frs(line)])
        if not any(frs(line)) or any(frs(other) in same for other in lines[:k]):
            continue
        rest = [other for other in lines if frs(other) not in same]
        best = best_for(Rows(rest), line) if rest else None
        if rest == [] or type(best) is Hidden or fr(best.size) > 1:
            found.append(k)
    return tuple(found)


class Slabs(unittest.TestCase):
    def holds(self, rows):
        found = slabs(rows)
        self.assertEqual(found, slabs_by_hand(rows.rows))
        self.assertTrue(all(is_pair_row(z, len(rows.rows[0])) for z in found))
        return found

    def test_by_hand(self):
        self.assertEqual(slabs(Rows([[2]])), (((1, 2),),))
        self.assertEqual(slabs(Rows([[2], [-3], [0]])), (((1, 3),),))
        self.assertEqual(slabs(Rows([[1, 0], [0, 1]])), (((1, 1), (-1, 1)), ((1, 1), (1, 1))))
        self.assertEqual(slabs(Rows([[1, 0], [0, 1], [1, 1]])), (((0, 1), (1, 1)), ((1, 1), (-1, 1)), ((1, 1), (0, 1))))
        self.assertEqual(slabs(Rows([[-1, 1], [1, 1]])), (((0, 1), (1, 1)), ((1, 1), (0, 1))))

    def test_ascending_by_value(self):
        # By the value of the ratio: 1/3 is below 1/2, though its pair is not.
        found = self.holds(Rows([[2, 0], [0, 1], [3, 1], [3, -1]]))
        self.assertEqual(list(frss(found)), sorted(frss(found)))
        found = self.holds(Rows([[2, 1], [2, -1], [1, 3], [0, 4]]))
        self.assertEqual(list(frss(found)), sorted(frss(found)))

    def test_rows_again_turned_about_and_of_zeros(self):
        self.holds(LIST)
        self.holds(Rows([[1, 0], [1, 0], [-1, 0], [0, 1], [0, 0], [0, 2]]))
        self.holds(Rows([[1, 1, 0], [0, 1, 1], [1, 0, 1], [1, 1, 1], [-1, -1, -1]]))

    def test_many(self):
        numbers = Numbers(100)
        for _ in range(30):
            k = numbers.between(1, 3)
            rows = numbers.rows(numbers.between(k, 7), k, 3, 2)
            if rank_by_hand(frss(rows)) == k:
                self.holds(Rows(rows))

    def test_the_size_of_any_number(self):
        numbers = Numbers(101)
        rows = Rows(numbers.rows(7, 3, 4, 2))
        found = frss(slabs(rows))
        for _ in range(20):
            c = frs(numbers.row(3))
            self.assertEqual(size(rows, c), max(abs(dotted(z, c)) for z in found))

    def test_sizes(self):
        numbers = Numbers(102)
        self.holds(Rows(numbers.rows(8, 3)))
        self.holds(Rows([[numbers.long() for _ in range(3)] for _ in range(8)]))
        self.holds(Rows(numbers.rows(20, 1)))
        self.assertTrue(len(slabs(Rows(numbers.rows(7, 4)))) > 0)

    def test_span(self):
        for rows in (FLAT, Rows([[0]]), Rows([[1, 2], [2, 4]]), Rows([[1, 2, 3]]), Rows([[0, 0], [1, 0]])):
            self.assertEqual(fields_of(self, Unlike, slabs, rows), {"what": "span"})


class Needed(unittest.TestCase):
    def test_by_hand(self):
        self.assertEqual(needed(Rows([[1, 0], [0, 1], [1, 1]])), (0, 1, 2))
        self.assertEqual(needed(Rows([[1, 0], [0, 1], [(1, 2), (1, 2)]])), (0, 1))
        self.assertEqual(needed(Rows([[1, 0], [0, 1], [(1, 2), (1, 2)], [2, 0]])), (1, 3))
        self.assertEqual(needed(Rows([[0, 0], [1, 0], [-1, 0], [1, 0]])), (1,))
        self.assertEqual(needed(Rows([[0, 0]])), ())
        self.assertEqual(needed(Rows([[3]])), (0,))
        self.assertEqual(needed(Rows([[3], [-5], [5], [4]])), (1,))
        self.assertEqual(needed(LIST), (2, 3, 4))
        self.assertEqual(needed(FLAT), (1, 2))

    def test_size_of_just_one(self):
        # The third row is just on the edge of the others' body.
        self.assertEqual(needed(Rows([[1, 0], [0, 1], [(1, 3), (2, 3)]])), (0, 1))
        self.assertEqual(needed(Rows([[1, 0], [0, 1], [(1, 3), (2 * 10 ** 12 + 1, 3 * 10 ** 12)]])), (0, 1, 2))

    def test_many(self):
        numbers = Numbers(103)
        for _ in range(30):
            rows = numbers.rows(numbers.between(1, 8), numbers.between(1, 3), 3, 2)
            rows = rows + [[(-top, bottom) for top, bottom in rows[0]]]
            self.assertEqual(needed(Rows(rows)), needed_by_hand(Rows(rows)))

    def test_sizes(self):
        numbers = Numbers(104)
        rows = Rows(numbers.rows(20, 4))
        self.assertEqual(needed(rows), needed_by_hand(rows))
        rows = Rows([[numbers.long() for _ in range(4)] for _ in range(20)])
        self.assertEqual(needed(rows), needed_by_hand(rows))


class Along(unittest.TestCase):
    def holds(self, rows, c, d):
        """The marks by sizes at each, between each two and beyond."""
        found = along(rows, c, d)
        self.assertIsInstance(found, tuple)
        self.assertTrue(len(found) > 0)
        for mark in found:
            self.assertIsInstance(mark, tuple)
            self.assertTrue(len(mark) == 2 and is_pair(mark[0]) and is_pair(mark[1]))
        places = [fr(s) for s, _ in found]
        sizes = [fr(number) for _, number in found]
        self.assertEqual(places, sorted(set(places)))
        c, d = frs(c), frs(d)
        moved = lambda s: size(rows, [a + s * b for a, b in zip(c, d)])
        steep = size(rows, d)
        places = [places[0] - 2] + places + [places[-1] + 3]
        sizes = [sizes[0] + 2 * steep] + sizes + [sizes[-1] + 3 * steep]
        slopes = []
        for k in range(len(places)):
            self.assertEqual(moved(places[k]), sizes[k])
            if k:
                middle = (places[k] + places[k - 1]) / 2
                self.assertEqual(moved(middle), (sizes[k] + sizes[k - 1]) / 2)
                slopes.append((sizes[k] - sizes[k - 1]) / (places[k] - places[k - 1]))
        self.assertTrue(all(one < two for one, two in zip(slopes, slopes[1:])), slopes)
        self.assertEqual((slopes[0], slopes[-1]), (-steep, steep))
        return found

    def test_by_hand(self):
        unit = Rows([[1, 0], [0, 1]])
        self.assertEqual(along(unit, (1, 0), (0, 1)), (((0, 1), (1, 1)),))
        self.assertEqual(along(unit, (1, 2), (1, 1)), (((-2, 1), (1, 1)), ((-1, 1), (1, 1))))
        self.assertEqual(along(unit, (0, 0), (1, 1)), (((0, 1), (0, 1)),))
        self.assertEqual(along(unit, ((1, 2), 0), (0, (1, 3))), (((0, 1), (1, 2)),))
        self.assertEqual(along(Rows([[2]]), (3,), (-4,)), (((3, 4), (0, 1)),))
        # c a multiple of d: the size is 0 at one place.
        self.assertEqual(along(LIST, (3, 3), [2, 2]), (((-3, 2), (0, 1)),))

    def test_many(self):
        numbers = Numbers(105)
        most = 0
        for _ in range(40):
            k = numbers.between(1, 4)
            rows = numbers.rows(numbers.between(k, 9), k, 3, 2)
            if rank_by_hand(frss(rows)) < k:
                continue
            c, d = numbers.row(k, 4, 2), numbers.row(k, 4, 2)
            if any(frs(d)):
                most = max(most, len(self.holds(Rows(rows), c, d)))
        self.assertTrue(most > 3)

    def test_known_lists(self):
        self.holds(LIST, (1, 0), (0, 1))
        self.holds(LIST, (0, 0), (3, 1))
        self.holds(FLAT, (1, 0, 0), (0, 1, 0))
        self.holds(FLAT, (1, 1, 0), (3, 3, 0))
        self.holds(Rows(chebyshev_rows(3, 9)), (1, 0, 0, 0), (0, 1, 0, 0))
        self.holds(Rows(chebyshev_rows(3, 9)), (0, 0, 0, 1), (0, 0, 1, 0))

    def test_sizes(self):
        numbers = Numbers(106)
        rows = Rows(numbers.rows(20, 4))
        self.holds(rows, numbers.row(4), numbers.row(4))
        rows = Rows([[numbers.long() for _ in range(4)] for _ in range(20)])
        self.holds(rows, [numbers.long() for _ in range(4)], [numbers.long() for _ in range(4)])

    def test_hidden(self):
        lines = frss(FLAT.rows)
        for c, d, asked in (((0, 0, 1), (1, 0, 0), (0, 0, 1)), ((1, 0, 0), (0, 0, 5), (0, 0, 5)),
                            ((0, 0, 1), (0, 0, 5), (0, 0, 1)), ((0, 0, 0), (1, 0, (-1, 3)), (1, 0, (-1, 3)))):
            found = along(FLAT, c, d)
            self.assertIs(type(found), Hidden)
            self.assertTrue(is_pair_row(found.z, 3))
            self.assertTrue(all(dotted(frs(found.z), line) == 0 for line in lines))
            self.assertEqual(dotted(frs(found.z), frs(asked)), 1)
            self.assertIs(type(can_tell(FLAT, asked)), Hidden)

    def test_bad_numbers(self):
        for c in BAD_ROWS:
            expect(self, BadRow, {"row": c}, along, LIST, c, None)
            expect(self, BadRow, {"row": c}, along, LIST, (1, 2), c)
        for value in NO_RATIOS:
            c = [1, value]
            expect(self, BadRow, {"row": c}, along, LIST, c, (0, 0))
            expect(self, BadRow, {"row": c}, along, LIST, (1, 2), c)
        for d in ((0, 0), [0, 0], ((0, 1), (0, 7)), [[0, 3], 0]):
            expect(self, BadRow, {"row": d}, along, LIST, (1, 2), d)
            expect(self, BadRow, {"row": d}, along, LIST, (0, 0), d)
        zeros = (0, 0, 0)
        expect(self, BadRow, {"row": zeros}, along, FLAT, (0, 0, 1), zeros)


if __name__ == "__main__":
    unittest.main()
