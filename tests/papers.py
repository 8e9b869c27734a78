"""What several tests need to hold designs and their papers against tables and forms of the test's own."""

from fractions import Fraction

from bestlooks.looks import Curve, Design, Rows
from bestlooks.polys import Poly
from bestlooks.signs import Capped
from tests.judging import dotted, form_by_hand, fr, frs, frss, pair_of, solve_by_hand, table_by_hand
from tests.test_looks import row_by_hand
from tests.test_signs import is_right_split, product_by_hand
from tests.test_telling import is_there


def unit(many, number=1):
    return [[Fraction(number) if i == k else Fraction(0) for i in range(many)] for k in range(many)]


def products(one, other):
    """The product of two tables of Fractions."""
    return [[dotted(row, list(column)) for column in zip(*other)] for row in one]


def det_by_hand(table):
    """The determinant of a table of Fractions, by its first row."""
    if not table:
        return Fraction(1)
    found = Fraction(0)
    for k, item in enumerate(table[0]):
        if item:
            found += (-1) ** k * item * det_by_hand([row[:k] + row[k + 1:] for row in table[1:]])
    return found


def inverse_by_hand(table):
    """The inverse of a table of Fractions that is the same when it is turned; None if there is none."""
    rows = [solve_by_hand(table, line) for line in unit(len(table))]
    return None if None in rows or det_by_hand(table) == 0 else rows


def plus_by_hand(one, other, factor=1):
    return [[a + factor * b for a, b in zip(row, line)] for row, line in zip(one, other)]


def is_from_nought(table):
    """Whether c * table * c is from 0 on for all c, for a table of Fractions that is the same when it is turned."""
    table = [list(row) for row in table]
    many = len(table)
    for k in range(many):
        if table[k][k] < 0:
            return False
        if table[k][k] == 0:
            if any(table[k][i] for i in range(many)):
                return False
            continue
        for i in range(k + 1, many):
            factor = table[i][k] / table[k][k]
            for j in range(many):
                table[i][j] -= factor * table[k][j]
        for i in range(k + 1, many):
            table[k][i] = Fraction(0)
    return True


def is_design_on(looks, design):
    return type(design) is Design and all(is_there(looks, place) for place in design.places)


def table_on(looks, design):
    """The table of a design, rows of Fractions."""
    return table_by_hand([row_by_hand(looks, place) for place in design.places], frs(design.shares))


def form_poly(curve, table):
    """The numbers of the polynomial r * table * r, for a table of Fractions, from products of the test's own."""
    found = [Fraction(0)]
    for row, one in zip(table, curve.polys):
        for factor, two in zip(row, curve.polys):
            made = product_by_hand(frs(one.numbers), frs(two.numbers))
            found = found + [Fraction(0)] * (len(made) - len(found))
            for k, number in enumerate(made):
                found[k] += factor * number
    return found


def is_paper(looks, table, bound, told):
    """Whether a told value is a Capped ([16]) of a table of Fractions with this bound."""
    if type(told) is not Capped:
        return False
    if isinstance(looks, Rows):
        return told.split is None and all(form_by_hand(table, row) <= bound for row in frss(looks.rows))
    numbers = [-number for number in form_poly(looks, table)]
    numbers[0] += bound
    return is_right_split(Poly([pair_of(number) for number in numbers]), looks.low, looks.high, told.split)


def turned(rows, turning):
    """The rows r * turning, as pairs."""
    columns = list(zip(*frss(turning)))
    return [[pair_of(dotted(frs(row), list(column))) for column in columns] for row in rows]


def powers_of(numbers):
    """The Polys x ** n for the numbers n."""
    return [Poly([0] * n + [1]) for n in numbers]


def turned_curve(low, high, polys, turning):
    """The curve whose rows are those of the Polys times turning."""
    made = []
    for column in zip(*turning):
        poly = Poly(())
        for factor, one in zip(column, polys):
            poly = poly + one * pair_of(fr(factor))
        made.append(poly)
    return Curve(low, high, made)


def moved_polys(polys, low, high):
    """The Polys that have at low and high, and between, the values that polys have from -1 to 1."""
    step = Fraction(2) / (fr(high) - fr(low))
    return [poly.moved(pair_of(-1 - fr(low) * step), pair_of(step)) for poly in polys]
