"""All numbers at once: the design with the greatest determinant."""

from bestlooks.climbs import WholeAim
from bestlooks.errors import BadNumber, BadRow, Unlike
from bestlooks.fields import Frame, even_table, field_of, settled
from bestlooks.looks import Design, Rows, check_places, form_on, has_places, is_unseen, places_enough, rank_of
from bestlooks.looks import row_at, table_of, unseen_row, width
from bestlooks.ratios import is_whole, lower, minus, plus, share, times
from bestlooks.signs import Capped, capped, is_capped, least_of
from bestlooks.tables import Table, form_of
from bestlooks.vectors import ascends, dot, gap_of, is_above, is_all_nought, is_exact, is_exact_row, is_nought, is_size
from bestlooks.vectors import kept, pair, total


class Whole:
    """A Design, and a paper that shows that no worth is more than over, for each number, times its own."""

    def __init__(self, design, over, paper):
        self.design = kept(design)
        self.over = kept(over)
        self.paper = kept(paper)


class Flat:
    """A row that no look sees, and that nothing told before."""

    def __init__(self, z):
        self.z = kept(z)


class Peak:
    """How great the spread of what a look would tell is at most, and a place at which it is so great, or nearly."""

    def __init__(self, number, place):
        self.number = kept(number)
        self.place = kept(place)


class Sure:
    """A Design that is better than all without some places, as what best_whole tells of the rest shows."""

    def __init__(self, design, rest):
        self.design = kept(design)
        self.rest = kept(rest)


class Spare:
    """A Whole that does without some places."""

    def __init__(self, whole):
        self.whole = kept(whole)


def _known(looks, bits, taken, amount):
    """The Table of what was taken and the amount; all errors of [35] in their order."""
    many = width(looks)
    known = _none(looks) if taken is None else taken
    if not isinstance(known, Table) or known.height != many or known.width != many:
        raise Unlike("sizes")
    if known.turned() != known:
        raise Unlike("even")
    if not is_size(amount):
        raise BadNumber("amount", amount)
    gap_of(bits)
    return known, pair(amount)


def best_whole(looks, bits, taken=None, amount=1):
    """Whole(design, over, paper) of the looks, or Flat(z) if all worths are 0."""
    known, size = _known(looks, bits, taken, amount)
    return _best(looks, bits, known, size)


def whole_of(looks, bits):
    """What best_whole tells, nothing being taken, for any number of bits from 0 on."""
    return _best(looks, bits, _none(looks), (1, 1))


def _none(looks):
    """The Table of zeros."""
    return Table([[0] * width(looks)] * width(looks))


def _best(looks, bits, known, size):
    """What best_whole tells, for any number of bits from 0 on."""
    first = known + even_table(looks) * size
    if is_nought(first.det()):
        # What is told by the rows of a Table from nought is just what the Table tells.
        seen = [row_at(looks, place) for place in places_enough(looks)] + list(known.rows)
        return Flat(unseen_row(Rows(seen)))
    over = plus(1, (1, 1 << bits))
    frame = Frame(first)
    field = field_of(looks, frame, size, bits)
    aim = WholeAim(frame.table_of(known))
    return settled(field, aim, bits, lambda design: _judged(looks, design, over, known, size))


def _judged(looks, design, over, known, size):
    """The Whole of a design with this over; None if it has none."""
    back, bound = _bound(looks, design, over, known, size)
    if back is None:
        return None
    paper = capped(looks, back, bound)
    return Whole(design, over, paper) if isinstance(paper, Capped) else None


def _bound(looks, design, over, known, size):
    """N ** -1 of [34], and the bound that over makes of it; None for both if there is no inverse."""
    table = known + table_of(looks, design) * size
    if is_nought(table.det()):
        return None, None
    back = table.inverse()
    rest = total([dot(row, line) for row, line in zip(back.rows, known.rows)])
    return back, share(minus(times(len(back.rows), over), rest), size)


def is_best_whole(looks, bits, told, taken=None, amount=1):
    """Whether told is what best_whole describes."""
    known, size = _known(looks, bits, taken, amount)
    if isinstance(told, Flat):
        return _is_flat(looks, known, told.z)
    if not isinstance(told, Whole) or not isinstance(told.design, Design) or not has_places(looks, told.design):
        return False
    if not is_exact(told.over) or lower(told.over, 1) or lower(plus(1, gap_of(bits)), told.over):
        return False
    back, bound = _bound(looks, told.design, told.over, known, size)
    return back is not None and is_capped(looks, back, bound, told.paper)


def _is_flat(looks, known, z):
    """Whether any value is a row, not all 0, that no look sees, and by which the known Table is 0."""
    if not is_exact_row(z, width(looks)) or is_all_nought(z) or not is_unseen(looks, z):
        return False
    return all([is_nought(dot(row, z)) for row in known.rows])


def peak(looks, design, bits):
    """Peak(number, place): how great r M ** -1 r is at most; None if M, the design's table, has no inverse."""
    check_places(looks, design)
    gap_of(bits)
    table = table_of(looks, design)
    if is_nought(table.det()):
        return None
    back = table.inverse()
    if isinstance(looks, Rows):
        return _greatest([form_of(back, row) for row in looks.rows])
    found = least_of(-form_on(looks, back), looks.low, looks.high, bits)
    return Peak(times(-1, found.number), found.place)


def _greatest(row):
    """The Peak of a row of ratios, one for each place of a list."""
    best = 0
    for k, item in enumerate(row):
        if lower(row[best], item):
            best = k
    return Peak(row[best], (best, 1))


def never_used(rows, told):
    """The indices of places that no design with the greatest worth has, as a Whole of the list shows."""
    back = table_of(rows, told.design).inverse()
    many = width(rows)
    more = times(many, minus(told.over, 1))
    return tuple([k for k, row in enumerate(rows.rows) if _is_never(form_of(back, row), many, more)])


def _is_never(height, many, more):
    """Whether the sums of [37] show that a place with such a v is not used."""
    double = minus(plus(2 * many, times(many, more)), times(2, height))
    if not is_above(double):
        return False
    bound = times(times(many, more), minus(plus(4 * many, times(many, more)), 4))
    return lower(bound, times(double, double))


def _check_rest(rows, indices, bits):
    """The errors of [38] in their order."""
    if not _are_indices(indices, len(rows.rows)):
        raise BadRow(indices)
    gap_of(bits)
    if rank_of(rows) < width(rows):
        raise Unlike("rank")


def _are_indices(value, many):
    """Whether any value is a row of ascending integers from 0 on, ahead of many, at least one, but not all."""
    if not isinstance(value, (tuple, list)) or not all([is_whole(index) for index in value]):
        return False
    return 0 < len(value) < many and ascends(value) and value[0] >= 0 and value[-1] < many


def _rest_of(rows, indices):
    """The indices of the other places of a list, and the list of them."""
    others = [k for k in range(len(rows.rows)) if k not in indices]
    return others, Rows([rows.rows[k] for k in others])


def sure_places(rows, indices, bits):
    """Sure(design, rest) if each best design has one of these places, or Spare(whole), one that has none of them."""
    _check_rest(rows, indices, bits)
    others, left = _rest_of(rows, indices)
    finer = bits
    while True:
        rest = whole_of(left, finer)
        design = whole_of(rows, finer).design
        if _is_better(rows, design, left, rest):
            return Sure(design, rest)
        spare = Design([others[index] for index, _ in rest.design.places], rest.design.shares)
        found = _judged(rows, spare, plus(1, gap_of(bits)), _none(rows), (1, 1))
        if found is not None:
            return Spare(found)
        finer += 4


def _is_better(rows, design, left, rest):
    """Whether a Design has a greater worth than any of the list that is left, as its Whole or Flat shows."""
    worth = table_of(rows, design).det()
    if isinstance(rest, Flat):
        return is_above(worth)
    bound = table_of(left, rest.design).det()
    for _ in range(width(rows)):
        bound = times(bound, rest.over)
    return lower(bound, worth)


def is_sure(rows, indices, bits, told):
    """Whether told is what sure_places describes."""
    _check_rest(rows, indices, bits)
    others, left = _rest_of(rows, indices)
    if isinstance(told, Spare):
        whole = told.whole
        if not isinstance(whole, Whole) or not is_best_whole(rows, bits, whole):
            return False
        return all([place[0] in others for place in whole.design.places])
    if not isinstance(told, Sure) or not isinstance(told.design, Design) or not has_places(rows, told.design):
        return False
    return is_best_whole(left, 0, told.rest) and _is_better(rows, told.design, left, told.rest)
