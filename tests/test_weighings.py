"""Promise [55]: weighings."""

import unittest
from fractions import Fraction

from bestlooks.counts import most_det, pans, weighings
from bestlooks.errors import BadNumber
from bestlooks.looks import Rows
from tests.judging import Numbers, fr
from tests.papers import det_by_hand
from tests.test_counts import table_of
from tests.values import expect


def rows_by_hand(many, items):
    if many == 0:
        return [()]
    return [(item,) + row for item in items for row in rows_by_hand(many - 1, items)]


class Weighings(unittest.TestCase):
    def test_all_rows(self):
        self.assertEqual(weighings(1), ((1,),))
        self.assertEqual(weighings(2), ((1, 1), (1, -1)))
        self.assertEqual(weighings(3), ((1, 1, 1), (1, 1, -1), (1, -1, 1), (1, -1, -1)))
        self.assertEqual(pans(1), ((1,),))
        self.assertEqual(pans(2), ((1, 1), (1, 0), (1, -1), (0, 1)))
        for many in range(1, 6):
            expected = [row for row in rows_by_hand(many, (1, -1)) if row[0] == 1]
            self.assertEqual(weighings(many), tuple(sorted(expected, reverse=True)))
            expected = [row for row in rows_by_hand(many, (1, 0, -1)) if [item for item in row if item][:1] == [1]]
            self.assertEqual(pans(many), tuple(sorted(expected, reverse=True)))
            self.assertEqual((len(weighings(many)), len(pans(many))), (2 ** (many - 1), (3 ** many - 1) // 2))
            for row in weighings(many) + pans(many):
                self.assertTrue(isinstance(row, tuple) and all(type(item) is int for item in row))

    def test_errors(self):
        for call in (weighings, pans):
            for many in (0, -1, 6, True, False, None, "3", 1.0, (3, 1), [3], (), 10 ** 40):
                expect(self, BadNumber, {"what": "many", "number": many}, call, many)

    def test_known_determinants(self):
        self.assertEqual(most_det(Rows(weighings(3)), 4).det, (64, 1))
        self.assertEqual(most_det(Rows(weighings(2)), 8).det, (64, 1))
        self.assertEqual(most_det(Rows(pans(2)), 4).det, (16, 1))
        # Three looks at three things: 16 with both pans full, by (1, 1, -1) and its turns.
        self.assertEqual(most_det(Rows(weighings(3)), 3).det, (16, 1))

    def test_the_bound(self):
        # At most n ** k, and just that exactly where all numbers are 1 and -1 and the table has 0 off its diagonal.
        numbers = Numbers(320)
        for _ in range(200):
            k = numbers.between(1, 4)
            rows = [numbers.one_of(pans(k)) for _ in range(numbers.between(1, 8))]
            table = table_of([[Fraction(item) for item in row] for row in rows], [1] * len(rows))
            det = det_by_hand(table)
            full = all(item for row in rows for item in row)
            apart = not any(table[i][j] for i in range(k) for j in range(k) if i != j)
            self.assertTrue(det <= len(rows) ** k)
            self.assertEqual(det == len(rows) ** k, full and apart)
        self.assertEqual(fr(most_det(Rows(weighings(4)), 4).det), 4 ** 4)


if __name__ == "__main__":
    unittest.main()
