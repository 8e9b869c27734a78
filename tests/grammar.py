"""Texts by rules of the test's own: nets of states, which tell how far a text may be the beginning of a right one."""

LETTERS = "abcdefghijklmnopqrstuvwxyz"
DIGITS = "0123456789"
WORDS = ("x", "list", "curve", "design", "number", "from", "to", "at", "on", "no", "tells", "within", "caps", "below",
         "beats")


class Net:
    """States with steps by characters, and free steps; each part is a pair of its first and its last state."""

    def __init__(self):
        self.steps = []
        self.free = []

    def state(self):
        self.steps.append({})
        self.free.append([])
        return len(self.steps) - 1

    def one(self, signs):
        first, last = self.state(), self.state()
        for sign in signs:
            self.steps[first].setdefault(sign, []).append(last)
        return first, last

    def word(self, text):
        return self.row(*[self.one(sign) for sign in text])

    def row(self, *parts):
        for one, other in zip(parts, parts[1:]):
            self.free[one[1]].append(other[0])
        return parts[0][0], parts[-1][1]

    def any_of(self, *parts):
        first, last = self.state(), self.state()
        for part in parts:
            self.free[first].append(part[0])
            self.free[part[1]].append(last)
        return first, last

    def perhaps(self, part):
        first, last = self.any_of(part)
        self.free[first].append(last)
        return first, last

    def many(self, part):
        """The part any number of times, perhaps never."""
        first, last = self.perhaps(part)
        self.free[part[1]].append(part[0])
        return first, last

    def spaces(self):
        return self.many(self.one(" "))

    def gap(self):
        return self.row(self.one(" "), self.spaces())

    def whole(self, zero=True):
        parts = [self.one(DIGITS[1:])]
        last = self.state()
        self.free[parts[0][1]].append(last)
        for _ in range(29):
            part = self.one(DIGITS)
            self.free[parts[-1][1]].append(part[0])
            self.free[part[1]].append(last)
            parts.append(part)
        part = (parts[0][0], last)
        return self.any_of(part, self.one("0")) if zero else part

    def number(self):
        return self.row(self.whole(), self.perhaps(self.row(self.one("/"), self.whole(False))))

    def ratio(self):
        return self.row(self.perhaps(self.one("-")), self.number())

    def power(self):
        ends = [self.word(str(k)) for k in range(13)]
        return self.row(self.one("x"), self.perhaps(self.row(self.one("^"), self.any_of(*ends))))

    def term(self):
        times = self.row(self.spaces(), self.one("*"), self.spaces(), self.power())
        return self.any_of(self.power(), self.row(self.number(), self.perhaps(times)))

    def poly(self):
        first = self.row(self.spaces(), self.perhaps(self.one("-")), self.spaces(), self.term(), self.spaces())
        more = self.row(self.one("+-"), self.spaces(), self.term(), self.spaces())
        return self.row(first, self.many(more))

    def name(self):
        """One to eight letters and digits, the first one a letter, but none of the words."""
        first, last = self.state(), self.state()
        beginnings = {word[:k] for word in WORDS for k in range(1, len(word) + 1)}
        states = {text: self.state() for text in beginnings}
        lengths = [self.state() for _ in range(9)]
        for text, state in [("", first)] + list(states.items()):
            for sign in LETTERS + (DIGITS if text else ""):
                longer = text + sign
                to = states.get(longer, lengths[len(longer)] if len(longer) < 9 else None)
                if to is not None:
                    self.steps[state].setdefault(sign, []).append(to)
            if text and text not in WORDS:
                self.free[state].append(last)
        for k in range(1, 9):
            self.free[lengths[k]].append(last)
            if k < 8:
                for sign in LETTERS + DIGITS:
                    self.steps[lengths[k]].setdefault(sign, []).append(lengths[k + 1])
        return first, last

    def bracket(self):
        item = self.row(self.spaces(), self.ratio(), self.spaces())
        more = self.row(self.one(","), self.spaces(), self.ratio(), self.spaces())
        return self.row(self.one("("), item, self.many(more), self.one(")"))

    def equal(self):
        return self.row(self.spaces(), self.one("="), self.spaces())

    def head(self, word):
        return self.row(self.spaces(), self.word(word), self.gap(), self.name())

    def share(self):
        return self.row(self.ratio(), self.gap(), self.word("at"), self.gap(), self.ratio(), self.spaces())

    def item(self):
        """A line of an item."""
        rows = self.row(self.head("list"), self.equal(), self.bracket(), self.spaces(),
                        self.many(self.row(self.bracket(), self.spaces())))
        ends = [self.row(self.gap(), self.word(word), self.gap(), self.ratio()) for word in ("from", "to")]
        curve = self.row(self.head("curve"), *ends, self.equal(), self.poly(), self.many(self.row(self.one(";"), self.poly())))
        design = self.row(self.head("design"), self.equal(), self.share(),
                          self.many(self.row(self.one(";"), self.spaces(), self.share())))
        number = self.row(self.head("number"), self.equal(), self.bracket(), self.spaces())
        return self.any_of(rows, curve, design, number)

    def promise(self):
        def words(*told):
            parts = []
            for k, item in enumerate(told):
                if k:
                    parts.append(self.gap())
                parts.append(self.name() if item == "NAME" else self.ratio() if item == "RATIO" else self.word(item))
            return self.row(self.spaces(), *parts, self.spaces())

        return self.any_of(words("NAME", "tells", "NAME"),
                           words("NAME", "tells", "NAME", "within", "RATIO", "on", "NAME"),
                           words("NAME", "caps", "RATIO", "on", "NAME"),
                           words("no", "design", "tells", "NAME", "below", "RATIO", "on", "NAME"),
                           words("NAME", "beats", "NAME", "on", "NAME"))

    def opened(self, states):
        """All states that free steps lead to from these."""
        found, waiting = set(states), list(states)
        while waiting:
            for state in self.free[waiting.pop()]:
                if state not in found:
                    found.add(state)
                    waiting.append(state)
        return found

    def wrong_at(self, part, text):
        """The column of the first wrong character of a text, from 1; None for a right text."""
        states = self.opened({part[0]})
        for column, sign in enumerate(text, start=1):
            states = self.opened({to for state in states for to in self.steps[state].get(sign, ())})
            if not states:
                return column
        return None if part[1] in states else len(text) + 1


def made(kind):
    """A function that tells the column of the first wrong character of a text of a kind."""
    net = Net()
    part = getattr(net, kind)()
    return lambda text: net.wrong_at(part, text)
