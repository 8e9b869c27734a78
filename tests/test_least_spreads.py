"""Promises [53], [54] and [56]: counts with the least spread, next looks, and how many are enough."""

import unittest
from fractions import Fraction
from itertools import combinations

from bestlooks.counts import Enough, LeastSpread, TooFew, is_least_spread, least_many, least_spread, next_look
from bestlooks.errors import BadNumber, BadRow, Unlike
from bestlooks.looks import Rows
from tests.judging import ANYTHING, Numbers, dotted, form_by_hand, fr, frs, frss, hold_judge, in_other_terms, is_judged
from tests.judging import is_judged_row, is_pair, pair_of, rank_by_hand, spread_by_hand
from tests.papers import det_by_hand
from tests.test_counts import BAD_MANY, all_counts, are_right_counts, is_right_tree, some_rows, table_of
from tests.values import NO_RATIOS, copied, expect, fields_of


def bars_spread(leaf, row, spread, strict, table, left, rows):
    """What [53], or strictly [54], says of a leaf."""
    if not is_judged_row(leaf, len(table)):
        return False
    z = frs(leaf)
    number = dotted(z, row)
    q = form_by_hand(table, z) + left * max(dotted(z, other) ** 2 for other in rows)
    if number == 0:
        return False
    return number ** 2 > spread * q if strict else number ** 2 >= spread * q


def is_barred(tree, looks, row, spread, strict, many):
    """Whether a tree bars this spread."""
    def bars(leaf, table, left, rows):
        return bars_spread(leaf, frs(row), spread, strict, table, left, rows)

    return is_right_tree(tree, frss(looks.rows), (), many, bars)


def spread_of(looks, counts, row):
    return spread_by_hand(table_of(frss(looks.rows), counts), frs(row))


def is_right(looks, row, many, told):
    """What [53] says of a told value."""
    if type(told) is not LeastSpread or not is_judged(told.spread):
        return False
    if not are_right_counts(told.counts, len(looks.rows), many) or spread_of(looks, told.counts, row) != fr(told.spread):
        return False
    return is_barred(told.tree, looks, row, fr(told.spread), False, many)


def least_by_hand(looks, row, many):
    """The least spread of all counts; None if none tell the row."""
    found = [spread_of(looks, counts, row) for counts in all_counts(len(looks.rows), many)]
    told = [spread for spread in found if spread is not None]
    return min(told) if told else None


def sums_of(numbers, rows):
    """A row that is a sum of multiples of one or two of the rows, but no zeros."""
    while True:
        one, other = numbers.one_of(rows), numbers.one_of(rows)
        a, b = fr(numbers.ratio(3, 2)), Fraction(numbers.between(0, 2))
        row = [pair_of(a * fr(x) + b * fr(y)) for x, y in zip(one, other)]
        if any(frs(row)):
            return row
        if not any(frs(one)) and not any(frs(other)) and not any(any(frs(line)) for line in rows):
            return None


class LeastSpreads(unittest.TestCase):
    def holds(self, looks, row, many, least=None):
        before = copied(row)
        found = least_spread(looks, row, many)
        self.assertEqual(copied(row), before)
        self.assertTrue(is_pair(found.spread))
        self.assertTrue(is_right(looks, row, many, found), (looks.rows, row, many, vars(found)))
        self.assertIs(is_least_spread(looks, row, many, found), True)
        if least is not None:
            self.assertEqual(fr(found.spread), least)
        return found

    def test_against_all_counts(self):
        numbers = Numbers(310)
        tried = 0
        for turn in range(60):
            looks = Rows(some_rows(numbers, turn))
            row = sums_of(numbers, looks.rows)
            if row is None:
                continue
            for many in range(1, 6):
                least = least_by_hand(looks, row, many)
                if least is None:
                    for call in (least_spread, lambda *things: is_least_spread(*things, None)):
                        self.assertEqual(fields_of(self, Unlike, call, looks, row, many), {"what": "row"})
                else:
                    self.holds(looks, row, many, least)
                    tried += 1
        self.assertTrue(tried > 150)

    def test_known(self):
        looks = Rows([[1, 0], [0, 1]])
        self.holds(looks, (1, 0), 5, Fraction(1, 5))
        self.holds(looks, (1, 1), 4, Fraction(1))
        self.holds(looks, (1, 1), 5, Fraction(5, 6))
        self.holds(looks, [[2, 4], (-3, 3)], 3, Fraction(3, 4))
        self.holds(Rows([[1, 1], [1, -1]]), (1, 0), 2, Fraction(1, 2))
        self.holds(Rows([[1, 1], [2, 2], [0, 0]]), (1, 1), 3, Fraction(1, 12))
        self.holds(Rows([[1, 0, 0], [0, 1, 0], [1, 1, 0]]), (1, 1, 0), 1, Fraction(1))

    def test_sizes(self):
        numbers = Numbers(311)

        def six():
            return (numbers.between(-999999, 999999), numbers.between(100000, 999999))

        for places, k, many in ((8, 4, 6), (5, 4, 12), (6, 3, 8)):
            looks = Rows([[six() for _ in range(k)] for _ in range(places)])
            self.holds(looks, [numbers.long(60) for _ in range(k)], many)
        for turn in range(2):
            looks = Rows([[numbers.between(-1, 1) for _ in range(3)] for _ in range(8)])
            self.holds(looks, sums_of(numbers, looks.rows), 6)

    def test_errors_in_their_order(self):
        looks = Rows([[1, 0, 0], [0, 1, 0], [1, 1, 0]])
        calls = (least_spread, lambda *things: is_least_spread(*things, None))
        for call in calls:
            for row in ((), (1, 2), (1, 2, 3, 4), (0, 0, 0), ((0, 5), 0, 0), None, 5, "123", {0: 1, 1: 2, 2: 3}, (1, 2, None)):
                expect(self, BadRow, {"row": row}, call, looks, row, None)
            for value in NO_RATIOS:
                row = [1, 0, value]
                expect(self, BadRow, {"row": row}, call, looks, row, 3)
            for many in BAD_MANY:
                expect(self, BadNumber, {"what": "many", "number": many}, call, looks, (0, 0, 1), many)
            for row, many in (((0, 0, 1), 12), ((1, 2, 3), 3), ((2, 1, 0), 1), ((1, -1, 0), 1)):
                self.assertEqual(fields_of(self, Unlike, call, looks, row, many), {"what": "row"})
        self.assertEqual(least_spread(looks, (1, 2, 0), 2).spread, (2, 1))


def renewed(told):
    """A LeastSpread in other terms; its counts are integers, and stay."""
    return LeastSpread(in_other_terms(told.spread), told.counts, in_other_terms(told.tree))


class IsLeastSpread(unittest.TestCase):
    CASES = ((Rows([[1, 0], [0, 1]]), (1, 1), 3), (Rows([[1, 0], [1, 1], [2, 1]]), (0, 1), 2), (Rows([[2], [1]]), (3,), 2),
             (Rows([[1, 1], [2, 2]]), (1, 1), 1), (Rows([[1, 0], [1, 0], [1, 2]]), (1, 1), 3))

    def test_changed_in_one_thing(self):
        for looks, row, many in self.CASES:
            hold_judge(self, is_least_spread, (looks, row, many), least_spread(looks, row, many),
                       lambda value: is_right(looks, row, many, value), (LeastSpread(None, None, None),), renewed)

    def judged(self, looks, row, many, told, right):
        self.assertIs(is_right(looks, row, many, told), right, vars(told))
        self.assertIs(is_least_spread(looks, row, many, told), right, vars(told))

    def test_leaves_by_hand(self):
        looks = Rows([[2], [1]])
        for spread, counts, leaf, right in (((1, 12), (3, 0), (1,), True), ((1, 12), (3, 0), (-7,), True),
                                            ((1, 12), (3, 0), ((1, 10 ** 9),), True), ((1, 12), (3, 0), (0,), False),
                                            ((1, 12), (3, 0), (1, 1), False), ((1, 12), (3, 0), 1, False),
                                            ((1, 9), (2, 1), (1,), False), ((1, 13), (3, 0), (1,), False)):
            self.judged(looks, (1,), 3, LeastSpread(spread, counts, (0, leaf)), right)
        looks = Rows([[1, 0], [0, 1]])
        # Two looks: the spread of (1, 1) is 2, and z = (1, 1) has the bound just met.
        little = (10 ** 9 + 1, 10 ** 9)
        for leaf, right in (((1, 1), True), (((1, 2), (1, 2)), True), (((1, 1), little), False), ((1, 0), False), ((1, -1), False)):
            self.judged(looks, (1, 1), 2, LeastSpread(2, (1, 1), (0, leaf)), right)
        # Behind two looks at the first row: z = (0, 1) sees nothing that was told, (1, 1) sees two looks.
        for leaf, right in (((0, 1), True), ((1, 1), True), ((1, 9), True), ((3, 1), False), ((1, 0), False)):
            tree = (1, ((0, (1, 1)), (0, (1, 1)), (0, leaf)))
            self.judged(looks, (1, 1), 2, LeastSpread(2, (1, 1), tree), right)
        tree = (1, ((0, (1, 1)), (0, (1, 1)), (1, ((0, (1, 1)),))))
        self.judged(looks, (1, 1), 2, LeastSpread(2, (1, 1), tree), False)

    def test_of_other_kinds(self):
        for value in ANYTHING:
            self.assertIs(is_least_spread(Rows([[1]]), (1,), 3, value), False)


class NextLook(unittest.TestCase):
    def by_hand(self, looks, counts):
        rows = frss(looks.rows)
        dets = [det_by_hand(table_of(rows, [count + (k == i) for i, count in enumerate(counts)])) for k in range(len(rows))]
        return pair_of(max(dets)), tuple(k for k, det in enumerate(dets) if det == max(dets))

    def test_ties(self):
        looks = Rows([[1, 0], [0, 1], [-1, 0], [1, 1]])
        self.assertEqual(next_look(looks, (1, 0, 0, 0)), ((1, 1), (1, 3)))
        self.assertEqual(next_look(looks, [0, 3, 0, 0]), ((3, 1), (0, 2, 3)))
        self.assertEqual(next_look(looks, (0, 0, 0, 0)), ((0, 1), (0, 1, 2, 3)))
        self.assertEqual(next_look(looks, (1, 1, 0, 0)), ((3, 1), (3,)))
        self.assertEqual(next_look(Rows([[0], [2], [-2], [(1, 2)]]), (0, 0, 0, 4)), ((5, 1), (1, 2)))
        self.assertEqual(next_look(Rows([[0]]), (7,)), ((0, 1), (0,)))
        self.assertEqual(next_look(Rows([[1, 1]]), (7,)), ((0, 1), (0,)))
        self.assertEqual(next_look(Rows([[(1, 2)], [1]]), (10 ** 12, 0)), ((10 ** 12 // 4 + 1, 1), (1,)))

    def test_drawn(self):
        numbers = Numbers(312)
        for turn in range(60):
            looks = Rows(some_rows(numbers, turn))
            counts = [numbers.below(4) for _ in looks.rows]
            before = copied(counts)
            found = next_look(looks, counts)
            self.assertEqual(copied(counts), before)
            self.assertEqual(found, self.by_hand(looks, counts))
            self.assertTrue(isinstance(found, tuple) and is_pair(found[0]) and all(type(k) is int for k in found[1]))

    def test_sizes(self):
        numbers = Numbers(313)
        looks = Rows([[(numbers.between(-999999, 999999), numbers.between(1, 999999)) for _ in range(4)] for _ in range(8)])
        counts = (1, 0, 2, 0, 0, 3, 1, 1)
        self.assertEqual(next_look(looks, counts), self.by_hand(looks, counts))

    def test_counts_that_are_none(self):
        looks = Rows([[1, 0], [0, 1]])
        for counts in ((), (1,), (1, 1, 1), (1, -1), (-1, 0), (1, True), (False, 1), ((1, 1), 0), ([1, 1], 0), (1, None), (1, 1.0),
                       None, 5, "11", {0: 1, 1: 1}, {1, 2}, range(2), ((1, 1),)):
            expect(self, BadRow, {"row": counts}, next_look, looks, counts)


class LeastMany(unittest.TestCase):
    def holds(self, looks, row, spread, most, many=None):
        """Each tree bars the spread by the test's own sums; with how many looks, if it is known."""
        found = least_many(looks, row, spread, most)
        places = len(looks.rows)
        if type(found) is Enough:
            self.assertTrue(type(found.many) is int and 1 <= found.many <= most)
            self.assertTrue(are_right_counts(found.counts, places, found.many))
            self.assertTrue(spread_of(looks, found.counts, row) <= fr(spread))
            less = found.many - 1
        else:
            self.assertIs(type(found), TooFew)
            less = most
        if less == 0 or rank_needed(looks, row) > less:
            self.assertIs(found.tree, None)
        else:
            self.assertTrue(is_barred(found.tree, looks, row, fr(spread), True, less))
        if many is not None:
            self.assertEqual(found.many if type(found) is Enough else 0, many)
        return found

    def test_known(self):
        looks = Rows([[1, 0], [0, 1]])
        little = Fraction(1, 10 ** 9)
        # The least spread of n looks is 1 / a + 1 / b with a + b = n, both as even as can be.
        for spread, many in ((2, 2), (1, 4), (Fraction(5, 6), 5), (Fraction(3, 2), 3), (Fraction(1, 3), 12)):
            self.holds(looks, (1, 1), pair_of(spread), 12, many)
            self.holds(looks, (1, 1), pair_of(spread - little), 12, many + 1 if many < 12 else 0)
            self.holds(looks, (1, 1), pair_of(spread + little), 12, many)
        self.holds(looks, (1, 1), 100, 12, 2)
        self.holds(looks, (1, 1), (1, 3), 11, 0)
        self.holds(looks, (1, 0), 1, 1, 1)
        self.holds(looks, (1, 0), pair_of(1 - little), 1, 0)
        self.holds(looks, (1, 0), pair_of(1 - little), 2, 2)
        self.holds(looks, (1, 0), (1, 12), 12, 12)
        self.holds(looks, (1, 0), pair_of(Fraction(1, 12) - little), 12, 0)

    def test_strictly(self):
        # Shares of thirds would just reach the spread 9 / 10 with ten looks, but whole looks do not.
        looks = Rows([[1, 0, 0], [0, 1, 0], [0, 0, 1]])
        self.holds(looks, (1, 1, 1), (9, 10), 12, 11)
        self.holds(looks, (1, 1, 1), (9, 10), 10, 0)
        self.holds(looks, (1, 1, 1), 1, 12, 9)

    def test_none_for_a_tree(self):
        looks = Rows([[1, 0], [0, 1], [1, 0]])
        self.assertIs(self.holds(looks, (1, 0), 5, 3, 1).tree, None)
        self.assertIs(self.holds(looks, (1, 1), 5, 3, 2).tree, None)
        self.assertIs(self.holds(looks, (1, 1), 5, 1, 0).tree, None)
        self.assertIsNot(self.holds(looks, (1, 1), (1, 5), 2, 0).tree, None)
        self.assertIsNot(self.holds(looks, (1, 1), 1, 4, 4).tree, None)
        self.assertIs(self.holds(Rows([[1, 0, 0], [0, 1, 0], [0, 0, 1]]), (1, 1, 1), 5, 2, 0).tree, None)

    def test_against_all_counts(self):
        numbers = Numbers(314)
        kinds = {Enough: 0, TooFew: 0}
        for turn in range(40):
            looks = Rows(some_rows(numbers, turn))
            row = sums_of(numbers, looks.rows)
            if row is None:
                continue
            least = [least_by_hand(looks, row, many) for many in range(1, 6)]
            for many in range(1, 6):
                if least[many - 1] is None:
                    continue
                for spread in (least[many - 1], least[many - 1] - Fraction(1, 10 ** 9)):
                    fitting = [k for k, item in enumerate(least, start=1) if item is not None and item <= spread]
                    found = self.holds(looks, row, pair_of(spread), 5, fitting[0] if fitting else 0)
                    kinds[type(found)] += 1
        self.assertTrue(min(kinds.values()) > 10, kinds)

    def test_sizes(self):
        numbers = Numbers(315)

        def six():
            return (numbers.between(-999999, 999999), numbers.between(100000, 999999))

        for places, k, most in ((8, 4, 6), (5, 3, 12)):
            looks = Rows([[six() for _ in range(k)] for _ in range(places)])
            row = [numbers.long(60) for _ in range(k)]
            least = fr(least_spread(looks, row, most).spread)
            self.holds(looks, row, pair_of(least * Fraction(10 ** 50 - 1, 10 ** 50)), most, 0)
            self.holds(looks, row, pair_of(least * Fraction(10 ** 50 + 1, 10 ** 50)), most)

    def test_errors_in_their_order(self):
        looks = Rows([[1, 0, 0], [0, 1, 0]])
        for row in ((), (1, 2), (0, 0, 0), None, 5, "123", (1, 2, None)):
            expect(self, BadRow, {"row": row}, least_many, looks, row, None, None)
        for value in NO_RATIOS:
            row = [1, 0, value]
            expect(self, BadRow, {"row": row}, least_many, looks, row, 1, 3)
        for spread in NO_RATIOS + (0, -1, (0, 3), (-1, 2), [0, 1]):
            expect(self, BadNumber, {"what": "spread", "number": spread}, least_many, looks, (0, 0, 1), spread, None)
        for most in BAD_MANY:
            expect(self, BadNumber, {"what": "most", "number": most}, least_many, looks, (0, 0, 1), (1, 2), most)
        for row in ((0, 0, 1), (1, 2, 3)):
            self.assertEqual(fields_of(self, Unlike, least_many, looks, row, 1, 12), {"what": "row"})
        # Too few looks to tell a row that the rows tell are no error here.
        self.assertIs(type(least_many(looks, (1, 1, 0), 1, 1)), TooFew)


def rank_needed(looks, row):
    """The least number of looks that tell a row."""
    rows = frss(looks.rows)
    for many in range(1, len(rows) + 1):
        for chosen in combinations(rows, many):
            if rank_by_hand(list(chosen)) == rank_by_hand(list(chosen) + [frs(row)]):
                return many
    raise AssertionError("no looks tell the row")


class Kept(unittest.TestCase):
    def test_keep_what_they_are_given(self):
        inner = [1, 2]
        row = [inner, 3]
        for made, names in ((LeastSpread(row, row, row), ["spread", "counts", "tree"]), (TooFew(row), ["tree"]),
                            (Enough(row, row, row), ["many", "counts", "tree"])):
            self.assertEqual(list(vars(made)), names)
            for value in vars(made).values():
                self.assertIs(type(value), tuple)
                self.assertIs(value[0], inner)
            self.assertTrue(made == made)

    def test_more_looks_are_never_worse(self):
        numbers = Numbers(316)
        looks = Rows(numbers.rows(4, 2))
        self.assertEqual(rank_by_hand(frss(looks.rows)), 2)
        least = [fr(least_spread(looks, (1, 2), many).spread) for many in range(2, 9)]
        self.assertEqual(least, sorted(least, reverse=True))


if __name__ == "__main__":
    unittest.main()
