"""One number on a list: the best design, which places are needed, costs, lost looks."""

from itertools import combinations

from bestlooks.errors import BadRow, Unlike
from bestlooks.looks import Design, Hidden, Rows, can_tell, check_number, has_places, is_hidden, rank_of, spread_of
from bestlooks.looks import width
from bestlooks.ratios import is_whole, lower, minus, plus, share, times, together
from bestlooks.sums import largest
from bestlooks.tables import Answer, Table, solved
from bestlooks.vectors import absolute, ascends, by_size, dot, is_all_nought, is_below, is_exact, is_exact_row
from bestlooks.vectors import is_nought, is_row, is_size, joined, kept, negative, pair, pairs, scaled


class Best:
    """The size of a number, a Design with the spread size times size, and a row that bars a lesser one."""

    def __init__(self, size, design, z):
        self.size = kept(size)
        self.design = kept(design)
        self.z = kept(z)


class Lost:
    """The least number of places without which a number is hidden, such places, and a row that hides it then."""

    def __init__(self, many, indices, z):
        self.many = kept(many)
        self.indices = kept(indices)
        self.z = kept(z)


def _greatest(lines, c):
    """What largest tells of z . c over all rows z with |z . r| at most 1 for all lines r."""
    return largest(_bounds(lines), [1] * (2 * len(lines)), pairs(c) + negative(c))


def _bounds(lines):
    """The rows of largest that keep |z . r| at most 1, each number of z being told as two spots from 0 on."""
    return [line + negative(line) for line in lines] + [negative(line) + line for line in lines]


def _row_of(spots):
    """The row z that is told by two spots for each number."""
    many = len(spots) // 2
    return joined(spots[:many], negative(spots[many:]))


def best_for(rows, c):
    """Best(size, design, z) for the number c on a list, or Hidden(z), which bars it."""
    check_number(rows, c)
    found = can_tell(rows, c)
    if isinstance(found, Hidden):
        return found
    reached = _greatest(rows.rows, c)
    z = _row_of(reached.spots)
    if is_nought(reached.number):
        return Best(reached.number, Design((0,), (1,)), z)
    many = len(rows.rows)
    weights = joined(reached.weights[:many], reached.weights[many:])
    used = [k for k, weight in enumerate(weights) if not is_nought(weight)]
    return Best(reached.number, Design(used, [share(weights[k], reached.number) for k in used]), z)


def is_best_for(rows, c, told):
    """Whether told is what best_for describes."""
    check_number(rows, c)
    if isinstance(told, Hidden):
        return is_hidden(rows, c, told.z)
    if not isinstance(told, Best) or not is_exact(told.size) or is_below(told.size):
        return False
    design = told.design
    if not isinstance(design, Design) or not has_places(rows, design) or len(design.places) > width(rows):
        return False
    if not is_exact_row(told.z, width(rows)) or dot(told.z, c) != pair(told.size):
        return False
    if any([lower(1, absolute(dot(told.z, row))) for row in rows.rows]):
        return False
    return spread_of(rows, design, c) == times(told.size, told.size)


def _check_span(rows):
    """Unlike("span") unless the rows of a list span all rows."""
    if rank_of(rows) < width(rows):
        raise Unlike("span")


def slabs(rows):
    """The ascending tuple of all rows z such that the size of each c is the greatest |z . c| of them."""
    _check_span(rows)
    lines = [line for k, line in enumerate(rows.rows) if _is_first(rows.rows, k)]
    found = {}
    for z in _crossings(lines, width(rows)):
        if not any([lower(1, absolute(dot(z, line))) for line in lines]):
            found[z] = True
    return _rows_by_size(list(found))


def _is_first(lines, index):
    """Whether a line is not 0 throughout, and none ahead of it is the same or its negative."""
    line = lines[index]
    return not is_all_nought(line) and not any([other in (line, negative(line)) for other in lines[:index]])


def _crossings(lines, many):
    """All rows z with |z . r| = 1 for so many lines r that span all, the first number that is not 0 above 0."""
    found = []
    for chosen in combinations(lines, many):
        table = Table(chosen)
        if table.rank() == many:
            back = table.inverse()
            # The other half of the signs makes the negatives.
            found.extend([_upright(back, signs) for signs in range(1 << (many - 1))])
    return found


def _upright(back, signs):
    """The row that a Table makes of 1 and -1 as told by the bits of signs, or its negative."""
    asked = [-1 if (signs >> k) & 1 else 1 for k in range(back.width)]
    z = tuple([dot(row, asked) for row in back.rows])
    first = [item for item in z if not is_nought(item)][0]
    return negative(z) if is_below(first) else z


def _rows_by_size(rows):
    """The tuple of rows of pairs in ascending order, by the values of their first unlike numbers."""
    many = len(rows[0])
    tops, _ = together([item for row in rows for item in row])
    order = sorted([(tops[k * many:(k + 1) * many], k) for k in range(len(rows))])
    return tuple([rows[k] for _, k in order])


def needed(rows):
    """The ascending tuple of the indices of all rows that some number cannot do without."""
    return tuple([k for k in range(len(rows.rows)) if _is_first(rows.rows, k) and _is_needed(rows.rows, k)])


def _is_needed(lines, index):
    """Whether the size of a line without it and its negative is above 1, or it is hidden then."""
    line = lines[index]
    others = [other for other in lines if other not in (line, negative(line))]
    if not others or isinstance(can_tell(Rows(others), line), Hidden):
        return True
    return lower(1, _greatest(others, line).number)


def along(rows, c, d):
    """The marks of the size of c + s * d for all s, or Hidden(z) for c, or for d."""
    check_number(rows, c)
    check_number(rows, d)
    if is_all_nought(d):
        raise BadRow(d)
    for asked in (c, d):
        found = can_tell(rows, asked)
        if isinstance(found, Hidden):
            return found
    marks = _marks(rows.rows, c, d)
    return tuple([(s, marks[s]) for s in by_size(list(marks))])


def _marks(lines, c, d):
    """The marks of the size of c + s * d as a dict of the sizes at each s."""
    marks = {}
    waiting = [(_last_piece(lines, c, d, negative(d)), _last_piece(lines, c, d, d))]
    while waiting:
        (start, rise), (end, fall) = waiting.pop()
        # Both pieces are nowhere above the size, so it bends just where they cross, if it is no greater there.
        s = share(minus(start, end), minus(fall, rise))
        value = plus(start, times(rise, s))
        found = _greatest(lines, joined(c, scaled(d, s)))
        if found.number == value:
            marks[s] = value
        else:
            piece = _piece(found, c, d)
            waiting.append(((start, rise), piece))
            waiting.append((piece, (end, fall)))
    return marks


def _piece(found, c, d):
    """The pair z . c, z . d of what largest tells: the size at 0 and the slope of a straight piece."""
    z = _row_of(found.spots)
    return (dot(z, c), dot(z, d))


def _last_piece(lines, c, d, way):
    """The piece far along the way, which is d or its negative."""
    size = _greatest(lines, way).number
    # Of all rows z that make the size of the way, the one with the greatest z . c.
    bounds = _bounds(lines) + [negative(way) + pairs(way)]
    rights = [1] * (2 * len(lines)) + [times(-1, size)]
    return _piece(largest(bounds, rights, pairs(c) + negative(c)), c, d)


def priced(rows, costs):
    """The list with each row divided by its cost."""
    if not is_row(costs, len(rows.rows)) or not all([is_size(cost) for cost in costs]):
        raise BadRow(costs)
    return Rows([scaled(row, share(1, cost)) for row, cost in zip(rows.rows, costs)])


def lost(rows, c):
    """Lost(many, indices, z): how many places must be lost before c is hidden; None for a c of zeros alone."""
    check_number(rows, c)
    if is_all_nought(c):
        return None
    found = can_tell(rows, c)
    if isinstance(found, Hidden):
        return Lost(0, (), found.z)
    best = None
    for z in _hiding(list(rows.rows), pairs(c), rank_of(rows) - 1):
        indices = _seen(rows.rows, z)
        if best is None or len(indices) < best.many:
            best = Lost(len(indices), indices, z)
    return best


def _seen(lines, z):
    """The ascending tuple of the indices of all lines r for which z . r is not 0."""
    return tuple([k for k, line in enumerate(lines) if not is_nought(dot(z, line))])


def _hiding(lines, c, many):
    """Rows z with z . c = 1 and z . r = 0 for so many lines r, one for each choice of them that leaves such a row."""
    found = []
    for chosen in combinations(lines, many):
        answer = solved(Table(list(chosen) + [c]), [0] * many + [1])
        if isinstance(answer, Answer):
            found.append(answer.row)
    return found


def is_lost(rows, c, told):
    """Whether told is what lost describes."""
    check_number(rows, c)
    if is_all_nought(c):
        return told is None
    if not isinstance(told, Lost) or not is_whole(told.many) or not is_exact_row(told.z, width(rows)):
        return False
    if not isinstance(told.indices, tuple) or not all([is_whole(index) for index in told.indices]):
        return False
    if told.many != len(told.indices) or told.many != lost(rows, c).many or not ascends(told.indices):
        return False
    if any([index < 0 or index >= len(rows.rows) for index in told.indices]):
        return False
    return not is_nought(dot(told.z, c)) and all([index in told.indices for index in _seen(rows.rows, told.z)])
