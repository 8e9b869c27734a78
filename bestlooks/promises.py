"""Promises: what is said of items, and whether it holds."""

from bestlooks.curves import Near, best_on
from bestlooks.errors import BadText, NoName
from bestlooks.lists import Best, best_for
from bestlooks.looks import Curve, Design, Hidden, Rows, can_tell, spread_of, table_of
from bestlooks.orders import Worse, no_worse
from bestlooks.ratios import lower, times
from bestlooks.readers import Reader
from bestlooks.signs import Over, capped
from bestlooks.vectors import dot, is_nought

# The number of bits with which curves are asked.
BITS = 12

# The kinds of items that a promise names: looks, a design, a number.
LOOKS = 0
DESIGN = 1
NUMBER = 2


class Promise:
    """A promise as it is read: its kind, the names in it with their starts and kinds, and its ratio, if it has one."""

    def __init__(self, word):
        self.word = word
        self.names_read = []
        self.bound = None

    def read_named(self, reader, kind):
        """Reads a name for an item of a kind."""
        start = reader.taken
        self.names_read.append((start, reader.read_name(), kind))

    def read_bound(self, reader, word):
        """Reads a word and the ratio behind it, with the spaces behind both."""
        reader.read_word(word)
        reader.read_gap()
        self.bound = reader.read_ratio()
        reader.read_gap()

    def read_looks(self, reader):
        """Reads the end of a promise: on what looks."""
        reader.read_word("on")
        reader.read_gap()
        self.read_named(reader, LOOKS)
        reader.read_end()


def promise_of(text):
    """The Promise that a text is; BadText for what is none."""
    if not isinstance(text, str):
        raise BadText(0)
    reader = Reader(text)
    reader.read_spaces()
    start = reader.taken
    if reader.read_run() == "no":
        return _read_no(reader)
    reader.taken = start
    name = reader.read_name()
    reader.read_gap()
    if reader.is_at("t"):
        return _read_tells(reader, start, name)
    promise = Promise("caps" if reader.is_at("c") else "beats")
    promise.names_read.append((start, name, DESIGN))
    if promise.word == "caps":
        promise.read_bound(reader, "caps")
    else:
        reader.read_word("beats")
        reader.read_gap()
        promise.read_named(reader, DESIGN)
        reader.read_gap()
    promise.read_looks(reader)
    return promise


def _read_no(reader):
    """The Promise that no design tells a number below a bound, behind the first word."""
    promise = Promise("no")
    for word in ("design", "tells"):
        reader.read_gap()
        reader.read_word(word)
    reader.read_gap()
    promise.read_named(reader, NUMBER)
    reader.read_gap()
    promise.read_bound(reader, "below")
    promise.read_looks(reader)
    return promise


def _read_tells(reader, start, name):
    """The Promise that looks, or a design, tell a number, behind their name."""
    promise = Promise("tells")
    reader.read_word("tells")
    reader.read_gap()
    promise.names_read.append((start, name, LOOKS))
    promise.read_named(reader, NUMBER)
    if not reader.is_at_end():
        reader.read_gap()
    if reader.is_at_end():
        return promise
    promise.word = "within"
    promise.names_read[0] = (start, name, DESIGN)
    promise.read_bound(reader, "within")
    promise.read_looks(reader)
    return promise


def names_in(text):
    """The names in the text of a promise, in order."""
    return [name for _, name, _ in promise_of(text).names_read]


def renamed(text, name, new):
    """The text of a promise with a name put anew, all else as it was."""
    for start, told, _ in reversed(promise_of(text).names_read):
        if told == name:
            text = text[:start] + new + text[start + len(name):]
    return text


def is_kept(text, items):
    """The pair of whether a promise holds for items, a dict by their names, and the witness, None if it does."""
    promise = promise_of(text)
    found = [_item_of(items, name, kind) for _, name, kind in promise.names_read]
    if promise.word == "tells":
        return _is_told(found[0], found[1])
    if promise.word == "within":
        return _is_within(found[0], found[1], promise.bound, found[2])
    if promise.word == "caps":
        return _is_under(found[0], promise.bound, found[1])
    if promise.word == "no":
        return _is_never_below(found[0], promise.bound, found[1])
    return _is_beaten(found[0], found[1], found[2])


def _item_of(items, name, kind):
    """The item with a name; NoName(name) if none of this kind has it."""
    item = items.get(name)
    if kind == LOOKS and isinstance(item, (Rows, Curve)):
        return item
    if kind == DESIGN and isinstance(item, Design):
        return item
    if kind == NUMBER and isinstance(item, tuple):
        return item
    raise NoName(name)


def _is_told(looks, number):
    """Whether looks tell a number, with the witness."""
    found = can_tell(looks, number)
    return (False, found) if isinstance(found, Hidden) else (True, None)


def _is_within(design, number, bound, looks):
    """Whether a design tells a number with a spread within a bound, with the witness."""
    spread = spread_of(looks, design, number)
    if spread is None:
        return (False, ())
    return (False, (spread,)) if lower(bound, spread) else (True, None)


def _is_under(design, bound, looks):
    """Whether the spread of what a look would tell is nowhere above a bound, with the witness."""
    table = table_of(looks, design)
    if is_nought(table.det()):
        return (False, ())
    found = capped(looks, table.inverse(), bound)
    return (False, found) if isinstance(found, Over) else (True, None)


def _is_never_below(number, bound, looks):
    """Whether no design tells a number with a spread below a bound, with the witness."""
    if isinstance(looks, Rows):
        found = best_for(looks, number)
        least = times(found.size, found.size) if isinstance(found, Best) else None
    else:
        found = best_on(looks, number, BITS)
        reached = dot(found.z, number)
        least = times(reached, reached) if isinstance(found, Near) else None
    return (True, None) if least is None or not lower(least, bound) else (False, found)


def _is_beaten(design, other, looks):
    """Whether a design is no worse for any number than another one, with the witness."""
    found = no_worse(table_of(looks, design), table_of(looks, other))
    return (False, found) if isinstance(found, Worse) else (True, None)
