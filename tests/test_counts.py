"""Promises [51], [52] and [56]: counts of whole looks with the greatest determinant."""

import unittest
from fractions import Fraction

from bestlooks.counts import MostDet, is_most_det, most_det, weighings
from bestlooks.errors import BadNumber, Unlike
from bestlooks.looks import Rows
from tests.judging import ANYTHING, Numbers, dotted, form_by_hand, fr, frs, frss, hold_judge, in_other_terms, is_judged
from tests.judging import is_judged_row, is_pair, rank_by_hand, table_by_hand
from tests.papers import det_by_hand
from tests.values import expect, fields_of

BAD_MANY = (0, -1, 13, True, False, None, "3", 1.0, (3, 1), [3], (), 10 ** 40)


def all_counts(places, many):
    """All rows of so many integers from 0 on that add up to many."""
    if places == 1:
        return [(many,)]
    return [(count,) + rest for count in range(many + 1) for rest in all_counts(places - 1, many - count)]


def table_of(rows, counts):
    """The table of counts, rows of Fractions."""
    return table_by_hand(rows, [Fraction(count) for count in counts])


def are_right_counts(value, places, many):
    if not isinstance(value, tuple) or len(value) != places or any(type(count) is not int for count in value):
        return False
    return min(value) >= 0 and sum(value) == many


def is_right_tree(value, rows, told, many, bars):
    """What [51] says of a tree; bars says of a leaf, the table so far, the looks left and the rows left what it bars."""
    at = len(told)
    left = many - sum(told)
    if not isinstance(value, tuple) or len(value) != 2 or type(value[0]) is not int:
        return False
    if value[0] == 0:
        return bars(value[1], table_of(rows[:at] or rows[:1], told or (0,)), left, rows[at:])
    if value[0] != 1 or at >= len(rows) - 1 or not isinstance(value[1], tuple) or len(value[1]) != left + 1:
        return False
    return all(is_right_tree(tree, rows, told + (count,), many, bars) for count, tree in enumerate(value[1]))


def bars_det(leaf, det, table, left, rows):
    """What [52] says of a leaf."""
    k = len(table)
    if not isinstance(leaf, tuple) or len(leaf) != 2 or not is_judged_row(leaf[0], k):
        return False
    if not isinstance(leaf[1], tuple) or len(leaf[1]) != k or not all(is_judged_row(row, k) for row in leaf[1]):
        return False
    weights, lines = frs(leaf[0]), frss(leaf[1])
    d = det_by_hand(lines)
    if min(weights) <= 0 or d == 0:
        return False
    t = sum(w * form_by_hand(table, c) for w, c in zip(weights, lines))
    t += left * max(sum(w * dotted(c, row) ** 2 for w, c in zip(weights, lines)) for row in rows)
    bound = det * d * d
    for weight in weights:
        bound *= weight
    return (t / k) ** k <= bound


def is_right(looks, many, told):
    """What [52] says of a told value."""
    rows = frss(looks.rows)
    if type(told) is not MostDet or not is_judged(told.det) or not are_right_counts(told.counts, len(rows), many):
        return False
    if det_by_hand(table_of(rows, told.counts)) != fr(told.det):
        return False
    return is_right_tree(told.tree, rows, (), many, lambda *things: bars_det(things[0], fr(told.det), *things[1:]))


def some_rows(numbers, turn):
    """Two to five rows of one to three ratios: drawn, alike ones, sums of few."""
    k = numbers.between(1, 3)
    rows = numbers.rows(numbers.between(2, 5), k, 4, 3)
    if turn % 3 == 1:
        rows[0] = list(rows[-1])
    if turn % 3 == 2:
        rows = [[numbers.between(-1, 1) for _ in range(k)] for _ in rows]
    return rows


class MostDets(unittest.TestCase):
    def holds(self, looks, many, det=None):
        found = most_det(looks, many)
        self.assertTrue(is_pair(found.det))
        self.assertTrue(is_right(looks, many, found), (looks.rows, many, vars(found)))
        self.assertIs(is_most_det(looks, many, found), True)
        if det is not None:
            self.assertEqual(fr(found.det), det)
        return found

    def test_against_all_counts(self):
        numbers = Numbers(300)
        tried = 0
        for turn in range(60):
            looks = Rows(some_rows(numbers, turn))
            rows = frss(looks.rows)
            if rank_by_hand(rows) < len(rows[0]):
                continue
            tried += 1
            for many in range(len(rows[0]), 7):
                best = max(det_by_hand(table_of(rows, counts)) for counts in all_counts(len(rows), many))
                self.holds(looks, many, best)
        self.assertTrue(tried > 20)

    def test_known(self):
        self.holds(Rows(weighings(3)), 4, 64)
        self.holds(Rows(weighings(2)), 8, 64)
        self.holds(Rows([[1, 0], [0, 1]]), 4, 4)
        self.holds(Rows([[1, 0], [0, 1]]), 5, 6)
        self.holds(Rows([[1, 0, 0], [0, 1, 0], [0, 0, 1], [0, 0, 0]]), 7, 12)
        self.holds(Rows([[(3, 2)]]), 4, 9)
        self.holds(Rows([[0], [(1, 3)], [(-1, 3)]]), 12, Fraction(12, 9))

    def test_sizes(self):
        numbers = Numbers(301)

        def six():
            return (numbers.between(-999999, 999999), numbers.between(100000, 999999))

        for places, k, many in ((8, 4, 6), (5, 4, 12), (6, 3, 8), (8, 1, 6)):
            self.holds(Rows([[six() for _ in range(k)] for _ in range(places)]), many)
        for rows in ([[numbers.between(-1, 1) for _ in range(4)] for _ in range(8)], weighings(4)):
            looks = Rows(rows)
            if rank_by_hand(frss(looks.rows)) == 4:
                self.holds(looks, 6)

    def test_errors_in_their_order(self):
        flat = Rows([[1, 2], [2, 4]])
        calls = (most_det, lambda looks, many: is_most_det(looks, many, None))
        for call in calls:
            for looks in (Rows([[1]]), flat):
                for many in BAD_MANY:
                    expect(self, BadNumber, {"what": "many", "number": many}, call, looks, many)
            for looks, many in ((flat, 5), (Rows([[0]]), 1), (Rows([[1, 0], [0, 1]]), 1), (Rows([[1, 0, 0]] * 3), 12),
                                (Rows([[1 if i == k else 0 for i in range(4)] for k in range(4)]), 3)):
                self.assertEqual(fields_of(self, Unlike, call, looks, many), {"what": "rank"})
        self.assertEqual(most_det(Rows([[2]]), 12).det, (48, 1))


def renewed(told):
    """A MostDet in other terms; its counts are integers, and stay."""
    return MostDet(in_other_terms(told.det), told.counts, in_other_terms(told.tree))


class IsMostDet(unittest.TestCase):
    CASES = ((Rows([[1, 0], [0, 1]]), 3), (Rows([[1, 0], [0, 1], [1, 1]]), 2), (Rows([[2], [1]]), 2), (Rows([[3]]), 1),
             (Rows([[1, 0], [1, 0], [1, 2]]), 3))

    def test_changed_in_one_thing(self):
        for looks, many in self.CASES:
            hold_judge(self, is_most_det, (looks, many), most_det(looks, many),
                       lambda value: is_right(looks, many, value), (MostDet(None, None, None),), renewed)

    def judged(self, looks, many, told, right):
        self.assertIs(is_right(looks, many, told), right, vars(told))
        self.assertIs(is_most_det(looks, many, told), right, vars(told))

    def test_trees_by_hand(self):
        # One number: the row 2 against the row 1; det is 4 for each look at the first.
        looks = Rows([[2], [1]])
        for weight, row, right in ((1, 1, True), ((1, 9), 7, True), ((3, 1), (-1, 5), True), (0, 1, False), (-1, 1, False),
                                   (1, 0, False)):
            self.judged(looks, 3, MostDet(12, (3, 0), (0, ((weight,), ((row,),)))), right)
        leaf = (0, ((1,), ((1,),)))
        branch = (1, (leaf, leaf, leaf, leaf))
        for det, counts, tree, right in (
                (12, (3, 0), branch, True), (12, [3, 0], [1, (leaf,) * 4], True), (12, (3, 0), (1, (leaf,) * 3), False),
                (12, (3, 0), (1, (leaf,) * 5), False), (12, (3, 0), (1, [leaf] * 4), False), (12, (3, 0), leaf, True),
                (12, (3, 0), (1, (leaf, leaf, leaf, (1, (leaf,)))), False), (12, (3, 0), (2, leaf), False),
                (12, (3, 0), (False, leaf[1]), False), (12, (3, 0), (True, branch[1]), False), (12, (3, 0), (0,), False),
                (12, (3, 0), ((0, 1), leaf[1]), False), (12, (3, 0), (0, leaf[1], 0), False), (12, (3, 0), None, False),
                (9, (2, 1), leaf, False), (9, (2, 1), branch, False), (12, (2, 1), leaf, False), (13, (3, 0), leaf, False),
                (12, (3,), leaf, False), (12, (3, 0, 0), leaf, False), (12, (4, -1), leaf, False), (12, (2, 0), leaf, False),
                (12, ((3, 1), 0), leaf, False), (12, (3, False), leaf, False), ((24, 2), (3, 0), leaf, True),
                ([24, 2], (3, 0), leaf, True), ("12", (3, 0), leaf, False)):
            self.judged(looks, 3, MostDet(det, counts, tree), right)

    def test_just_barred(self):
        # Two numbers, rows at right angles: two looks, det 1; the leaf's weights by and by.
        looks = Rows([[1, 0], [0, 1]])
        unit = ((1, 0), (0, 1))
        little = Fraction(1, 10 ** 9)
        for one, other, right in ((1, 1, True), (3, 3, True), (1, 2, False), (1 + little, 1, False)):
            weights = tuple((Fraction(item).numerator, Fraction(item).denominator) for item in (one, other))
            self.judged(looks, 2, MostDet(1, (1, 1), (0, (weights, unit))), right)
        # Behind two looks at the first row nothing is left: any leaf whose mean is small enough will do.
        first = (0, ((1, 1), unit))
        for weights, right in (((1, 4), True), ((1, 1), True), ((1, (1, 2)), False), ((9, 9), True), ((2, (9, 10)), False)):
            tree = (1, (first, first, (0, (weights, unit))))
            self.judged(looks, 2, MostDet(1, (1, 1), tree), right)

    def test_of_other_kinds(self):
        looks = Rows([[1, 0], [0, 1]])
        told = most_det(looks, 3)
        for value in ANYTHING + (told.tree, vars(told)):
            self.assertIs(is_most_det(looks, 3, value), False)
        self.assertIs(is_most_det(looks, 3, renewed(told)), True)


class Kept(unittest.TestCase):
    def test_keep_what_they_are_given(self):
        inner = [1, 2]
        row = [inner, 3]
        made = MostDet(row, row, row)
        self.assertEqual(list(vars(made)), ["det", "counts", "tree"])
        for value in vars(made).values():
            self.assertIs(type(value), tuple)
            self.assertIs(value[0], inner)
        self.assertTrue(made == made)


if __name__ == "__main__":
    unittest.main()
