"""Whole looks: counts that are best, next looks, weighings."""

from itertools import combinations

from bestlooks.climbs import SumAim, WholeAim
from bestlooks.errors import BadNumber, BadRow, Unlike
from bestlooks.fields import Frame
from bestlooks.looks import Hidden, Rows, Sum, can_tell, check_number, rank_of, width
from bestlooks.ratios import is_whole, lower, plus, share, times
from bestlooks.tables import Table, form_of, gathered, led_to, solved, squares_of
from bestlooks.trees import Counted, all_counts, fine_asked, is_few, is_tree, near_table, rest_table
from bestlooks.trees import tree_of
from bestlooks.vectors import dot, greatest, is_above, is_all_nought, is_exact, is_exact_row, is_less
from bestlooks.vectors import is_nought, is_size, kept, pair, power


class MostDet:
    """The greatest determinant, counts that have it, and a tree that bars a greater one."""

    def __init__(self, det, counts, tree):
        self.det = kept(det)
        self.counts = kept(counts)
        self.tree = kept(tree)


class LeastSpread:
    """The least spread, counts that have it, and a tree that bars a lesser one."""

    def __init__(self, spread, counts, tree):
        self.spread = kept(spread)
        self.counts = kept(counts)
        self.tree = kept(tree)


class Enough:
    """The least number of looks with a spread, counts that have it, and a tree that bars one look less."""

    def __init__(self, many, counts, tree):
        self.many = kept(many)
        self.counts = kept(counts)
        self.tree = kept(tree)


class TooFew:
    """A tree that shows that no number of looks that may be made has a spread."""

    def __init__(self, tree):
        self.tree = kept(tree)


class DetPaper:
    """Leaves that bar determinants above a told one."""

    def __init__(self, looks, det):
        self.rows = looks.rows
        self.most = det
        self.each = rest_table(looks.rows, len(looks.rows), gathered(looks.rows[:1], [0]))

    def leaf(self, at, left, table):
        """Weights and rows that bar all counts that go on so; None if there may be none."""
        rows = self.rows[at:]
        many = rest_table(rows, left, table)
        if is_nought(many.det()):
            return self._leaf_beside(rows, left, table, many)
        if left == 0 or len(rows) == 1:
            return self._leaf_of(rows, left, table, many)
        if is_few(len(rows), left):
            return None
        frame = Frame(many)
        near = near_table(rows, left, table, WholeAim(frame.table_of(table)), frame)
        return None if is_nought(near.det()) else self._leaf_of(rows, left, table, near)

    def _leaf_beside(self, rows, left, table, many):
        """The leaf of a table that is a little above that of all counts, which have the determinant 0."""
        part = (1, 1)
        while True:
            found = self._leaf_of(rows, left, table, many + self.each * part)
            if found is not None:
                return found
            part = times(part, (1, 16))

    def _leaf_of(self, rows, left, table, many):
        """The leaf that the inverse of a table makes; None if it does not bar."""
        back = many.inverse()
        if not self._bars(rows, left, table, back):
            return None
        squares = squares_of(back)
        return (squares.weights, squares.rows)

    def _bars(self, rows, left, table, back):
        """Whether a Table that squares make bars what [52] says it does."""
        told = dot([1] * len(back.rows), [dot(row, line) for row, line in zip(back.rows, table.rows)])
        size = greatest([form_of(back, row) for row in rows])
        reach = share(plus(told, times(left, size)), len(back.rows))
        return not lower(times(self.most, back.det()), power(reach, len(back.rows)))

    def is_leaf(self, value, at, left, table):
        """Whether any value is a leaf that bars all counts that go on so."""
        many = table.height
        if not isinstance(value, tuple) or len(value) != 2 or not isinstance(value[1], tuple) or len(value[1]) != many:
            return False
        weights, rows = value
        if not is_exact_row(weights, many) or not all([is_exact_row(row, many) for row in rows]):
            return False
        if not all([is_above(weight) for weight in weights]) or is_nought(Table(rows).det()):
            return False
        return self._bars(self.rows[at:], left, table, gathered(rows, weights))


class SpreadPaper:
    """Leaves that bar spreads of a row below a told one, or such as are not above it."""

    def __init__(self, looks, row, spread, is_strict):
        self.rows = looks.rows
        self.row = row
        self.spread = spread
        self.is_strict = is_strict

    def leaf(self, at, left, table):
        """A row that bars all counts that go on so; None if there may be none."""
        rows = self.rows[at:]
        many = rest_table(rows, left, table)
        found = led_to(many, self.row)
        if found is None:
            return solved(many, self.row).row
        if left == 0 or len(rows) == 1:
            return tuple(found)
        if is_few(len(rows), left) or is_nought(many.det()):
            return None
        frame = Frame(many)
        aim = SumAim(frame.table_of(table), fine_asked(self.row, frame))
        z = led_to(near_table(rows, left, table, aim, frame), self.row)
        return tuple(z) if z is not None and self._bars(rows, left, table, z) else None

    def _bars(self, rows, left, table, z):
        """Whether a row z bars what [53] says it does, or what [54] says."""
        number = dot(z, self.row)
        if is_nought(number):
            return False
        most = greatest([times(seen, seen) for seen in [dot(z, row) for row in rows]])
        bound = times(self.spread, plus(form_of(table, z), times(left, most)))
        square = times(number, number)
        return lower(bound, square) if self.is_strict else not lower(square, bound)

    def is_leaf(self, value, at, left, table):
        """Whether any value is a leaf that bars all counts that go on so."""
        return is_exact_row(value, table.height) and self._bars(self.rows[at:], left, table, value)


def _check_row(looks, row):
    """BadRow(row) for what is no row of as many ratios as the looks have, not all 0."""
    check_number(looks, row)
    if is_all_nought(row):
        raise BadRow(row)


def _check_many(what, many):
    """BadNumber(what, many) for what is no integer from 1 to 12."""
    if not is_whole(many) or many < 1 or many > 12:
        raise BadNumber(what, many)


def _check_most_det(looks, many):
    """The errors of the greatest determinant, in their order."""
    _check_many("many", many)
    if rank_of(looks) < width(looks) or many < width(looks):
        raise Unlike("rank")


def most_det(looks, many):
    """MostDet(det, counts, tree) for many looks."""
    _check_most_det(looks, many)
    counted = Counted(looks)
    choices = all_counts(len(looks.rows), many)
    dets = [counted.det_of(counts) for counts in choices]
    best = greatest(dets)
    return MostDet(best, choices[dets.index(best)], tree_of(DetPaper(looks, best), looks, many))


def is_most_det(looks, many, told):
    """Whether told is what most_det describes."""
    _check_most_det(looks, many)
    if not isinstance(told, MostDet) or not is_exact(told.det) or not _are_counts(told.counts, len(looks.rows), many):
        return False
    if Counted(looks).det_of(told.counts) != pair(told.det):
        return False
    return is_tree(DetPaper(looks, told.det), looks, many, told.tree)


def _are_counts(value, places, many):
    """Whether any value is a tuple of integers from 0 on, one for each place, that add up to many."""
    if not isinstance(value, tuple) or len(value) != places:
        return False
    return all([is_whole(count) and count >= 0 for count in value]) and sum(value) == many


def _check_least_spread(looks, row, many):
    """The errors of the least spread, in their order."""
    _check_row(looks, row)
    _check_many("many", many)
    if not _is_told(looks.rows, row, min(many, width(looks), len(looks.rows))):
        raise Unlike("row")


def _is_told(rows, row, many):
    """Whether a row is a sum of multiples of so many rows."""
    return any([isinstance(can_tell(Rows(chosen), row), Sum) for chosen in combinations(rows, many)])


def _least(looks, row, many):
    """The least spread of a row for many looks, and counts that have it; None for both if none tell it."""
    counted = Counted(looks)
    best, found = None, None
    for counts in all_counts(len(looks.rows), many):
        spread = counted.spread_of(counts, row)
        if spread is not None and (best is None or is_less(spread, best)):
            best, found = spread, counts
    return (None, None) if best is None else (pair(best), found)


def least_spread(looks, row, many):
    """LeastSpread(spread, counts, tree) of a row for many looks."""
    _check_least_spread(looks, row, many)
    spread, counts = _least(looks, row, many)
    return LeastSpread(spread, counts, tree_of(SpreadPaper(looks, row, spread, False), looks, many))


def is_least_spread(looks, row, many, told):
    """Whether told is what least_spread describes."""
    _check_least_spread(looks, row, many)
    if not isinstance(told, LeastSpread) or not is_exact(told.spread):
        return False
    if not _are_counts(told.counts, len(looks.rows), many):
        return False
    spread = Counted(looks).spread_of(told.counts, row)
    if spread is None or pair(spread) != pair(told.spread):
        return False
    return is_tree(SpreadPaper(looks, row, told.spread, False), looks, many, told.tree)


def next_look(looks, counts):
    """The greatest determinant of the table of counts with one look more, and the indices of all rows that give it."""
    if not isinstance(counts, (tuple, list)) or len(counts) != len(looks.rows):
        raise BadRow(counts)
    if not all([is_whole(count) and count >= 0 for count in counts]):
        raise BadRow(counts)
    counted = Counted(looks)
    dets = [counted.det_of(_with_one(counts, k)) for k in range(len(counts))]
    best = greatest(dets)
    return (best, tuple([k for k, det in enumerate(dets) if det == best]))


def _with_one(counts, at):
    """The counts with one look more at a place."""
    return [count + 1 if k == at else count for k, count in enumerate(counts)]


def least_many(looks, row, spread, most):
    """Enough(many, counts, tree) for a spread of a row, or TooFew(tree) if most looks are not enough."""
    _check_row(looks, row)
    if not is_size(spread):
        raise BadNumber("spread", spread)
    _check_many("most", most)
    if isinstance(can_tell(looks, row), Hidden):
        raise Unlike("row")
    for many in range(1, most + 1):
        least, counts = _least(looks, row, many)
        if least is not None and not lower(spread, least):
            return Enough(many, counts, _spread_tree(looks, row, spread, many - 1))
    return TooFew(_spread_tree(looks, row, spread, most))


def _spread_tree(looks, row, spread, many):
    """The tree that bars a spread for many looks; None if so many cannot tell the row."""
    if many == 0 or not _is_told(looks.rows, row, min(many, width(looks), len(looks.rows))):
        return None
    return tree_of(SpreadPaper(looks, row, spread, True), looks, many)


def weighings(many):
    """All rows of 1 and -1, the first one being 1, in descending order."""
    _check_size(many)
    rows = [(1,)]
    for _ in range(many - 1):
        rows = [row + (item,) for row in rows for item in (1, -1)]
    return tuple(rows)


def pans(many):
    """All rows of 1, 0 and -1, the first one other than 0 being 1, in descending order."""
    _check_size(many)
    rows = [()]
    for _ in range(many):
        rows = [row + (item,) for row in rows for item in (1, 0, -1)]
    # Of a row and its negative just one is above the row of zeros.
    return tuple([row for row in rows if row > (0,) * many])


def _check_size(many):
    """BadNumber("many", many) for what is no integer from 1 to 5."""
    if not is_whole(many) or many < 1 or many > 5:
        raise BadNumber("many", many)
