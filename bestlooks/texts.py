"""Texts: polynomials, items, and the lines in which they are told."""

from bestlooks.errors import BadInterval, BadLine, BadRow, BadText
from bestlooks.looks import Curve, Design, Rows
from bestlooks.ratios import ratio_text
from bestlooks.readers import Reader
from bestlooks.vectors import absolute, is_below, is_nought


def poly_of(text):
    """The Poly that a text stands for."""
    if not isinstance(text, str):
        raise BadText(0)
    reader = Reader(text)
    poly = reader.read_poly()
    reader.read_end()
    return poly


def poly_text(poly):
    """The text of a Poly."""
    text = ""
    for power, number in enumerate(poly.numbers):
        if not is_nought(number):
            text = text + _sign_text(text, number) + _term_text(absolute(number), power)
    return text if text != "" else "0"


def _sign_text(text, number):
    """What stands ahead of a number's TERM, behind the text so far."""
    if text == "":
        return "-" if is_below(number) else ""
    return " - " if is_below(number) else " + "


def _term_text(number, power):
    """The TERM of a number from 0 on and a power."""
    if power == 0:
        return ratio_text(number)
    sign = "x" if power == 1 else f"x^{power}"
    return sign if number == (1, 1) else ratio_text(number) + "*" + sign


def read_items(text):
    """The pairs of a name and an item that a text of items tells; BadLine for a wrong line, or for no string."""
    if not isinstance(text, str):
        raise BadLine(0, 0)
    found = []
    names = []
    for number, line in enumerate(text.split("\n"), start=1):
        if line.strip(" ") != "":
            name, item = _read_line(line, number, names)
            names.append(name)
            found.append((name, item))
    return found


def _read_line(line, number, names):
    """The name and the item of a line, these names being told already; BadLine if it is wrong."""
    try:
        return _read_item(Reader(line), names)
    except BadText as error:
        raise BadLine(number, error.column) from None
    except (BadRow, BadInterval):
        raise BadLine(number, len(line) + 1) from None


def _read_item(reader, names):
    """The name and the item that a reader's line tells."""
    reader.read_spaces()
    if reader.is_at("l"):
        name = _read_head(reader, "list", names)
        return name, _read_list(reader)
    if reader.is_at("c"):
        name = _read_head(reader, "curve", names)
        return name, _read_curve(reader)
    if reader.is_at("d"):
        name = _read_head(reader, "design", names)
        return name, _read_design(reader)
    name = _read_head(reader, "number", names)
    _read_equal(reader)
    row = reader.read_row()
    reader.read_end()
    return name, row


def _read_head(reader, word, names):
    """The name of an item behind the word for its kind."""
    reader.read_word(word)
    reader.read_gap()
    start = reader.taken
    name = reader.read_name()
    if name in names:
        raise BadText(start + 1)
    return name


def _read_equal(reader):
    """Reads the sign = with the spaces about it."""
    reader.read_spaces()
    reader.read_sign("=")
    reader.read_spaces()


def _read_list(reader):
    """The Rows of a line, behind its name."""
    _read_equal(reader)
    rows = [reader.read_row()]
    reader.read_spaces()
    while not reader.is_at_end():
        rows.append(reader.read_row())
        reader.read_spaces()
    return Rows(rows)


def _read_curve(reader):
    """The Curve of a line, behind its name."""
    ends = []
    for word in ("from", "to"):
        reader.read_gap()
        reader.read_word(word)
        reader.read_gap()
        ends.append(reader.read_ratio())
    _read_equal(reader)
    polys = [reader.read_poly()]
    while not reader.is_at_end():
        reader.read_sign(";")
        polys.append(reader.read_poly())
    return Curve(ends[0], ends[1], polys)


def _read_design(reader):
    """The Design of a line, behind its name."""
    _read_equal(reader)
    pairs_told = [_read_share(reader)]
    while not reader.is_at_end():
        reader.read_sign(";")
        reader.read_spaces()
        pairs_told.append(_read_share(reader))
    return Design([place for _, place in pairs_told], [part for part, _ in pairs_told])


def _read_share(reader):
    """A share and its place, with the spaces behind them."""
    part = reader.read_ratio()
    reader.read_gap()
    reader.read_word("at")
    reader.read_gap()
    place = reader.read_ratio()
    reader.read_spaces()
    return (part, place)


def item_line(name, item):
    """The line of an item, without its end."""
    if isinstance(item, Rows):
        return f"list {name} = " + " ".join([_row_text(row) for row in item.rows])
    if isinstance(item, Curve):
        polys = " ; ".join([poly_text(poly) for poly in item.polys])
        return f"curve {name} from " + ratio_text(item.low) + " to " + ratio_text(item.high) + " = " + polys
    if isinstance(item, Design):
        parts = [ratio_text(part) + " at " + ratio_text(place) for part, place in zip(item.shares, item.places)]
        return f"design {name} = " + " ; ".join(parts)
    return f"number {name} = " + _row_text(item)


def _row_text(row):
    """The ROW of a row of pairs."""
    return "(" + ", ".join([ratio_text(number) for number in row]) + ")"
