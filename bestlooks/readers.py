"""Readers: texts that are read from the left, sign by sign."""

from bestlooks.errors import BadText
from bestlooks.polys import Poly
from bestlooks.ratios import lowest

DIGITS = "0123456789"
LETTERS = "abcdefghijklmnopqrstuvwxyz"

# Words that are no names.
WORDS = ("x", "list", "curve", "design", "number", "from", "to", "at", "on", "no", "tells", "within", "caps", "below",
         "beats")


class Reader:
    """A text, and how many of its characters are read.

    What cannot be read raises BadText(column) at the first character with which no right text goes on. So it does no
    harm to stop early: what reads on will fail at the same place.
    """

    def __init__(self, text):
        self.text = text
        self.taken = 0

    def is_at(self, signs):
        """Whether the next character is one of these."""
        sign = self.text[self.taken:self.taken + 1]
        return sign != "" and sign in signs

    def is_at_end(self):
        """Whether all characters are read."""
        return self.taken == len(self.text)

    def read_sign(self, signs):
        """The next character, which must be one of these."""
        if not self.is_at(signs):
            raise BadText(self.taken + 1)
        self.taken += 1
        return self.text[self.taken - 1]

    def read_word(self, word):
        """Reads the characters of a word."""
        for sign in word:
            self.read_sign(sign)

    def read_spaces(self):
        """Reads spaces, perhaps none."""
        while self.is_at(" "):
            self.taken += 1

    def read_gap(self):
        """Reads spaces, one at least."""
        self.read_sign(" ")
        self.read_spaces()

    def read_end(self):
        """Reads spaces up to the end."""
        self.read_spaces()
        if not self.is_at_end():
            raise BadText(self.taken + 1)

    def read_run(self):
        """A run of one to eight letters and digits, the first one a letter, behind which no further one follows."""
        start = self.taken
        self.read_sign(LETTERS)
        while self.is_at(LETTERS + DIGITS) and self.taken - start < 8:
            self.taken += 1
        if self.is_at(LETTERS + DIGITS):
            raise BadText(self.taken + 1)
        return self.text[start:self.taken]

    def read_name(self):
        """A name."""
        run = self.read_run()
        # The word might have gone on to a name, so that it is wrong behind its end.
        if run in WORDS:
            raise BadText(self.taken + 1)
        return run

    def read_whole(self, first):
        """A WHOLE, the first digit of which is one of these."""
        start = self.taken
        if self.read_sign(first) != "0":
            while self.is_at(DIGITS) and self.taken - start < 30:
                self.taken += 1
        return int(self.text[start:self.taken])

    def read_number(self):
        """A NUMBER, a pair."""
        top = self.read_whole(DIGITS)
        if not self.is_at("/"):
            return (top, 1)
        self.taken += 1
        return lowest(top, self.read_whole("123456789"))

    def read_minus(self):
        """-1 where the sign - is read, otherwise 1."""
        if not self.is_at("-"):
            return 1
        self.taken += 1
        return -1

    def read_ratio(self):
        """A RATIO, a pair."""
        sign = self.read_minus()
        top, bottom = self.read_number()
        return (sign * top, bottom)

    def read_row(self):
        """A ROW, a tuple of pairs."""
        self.read_sign("(")
        row = []
        while True:
            self.read_spaces()
            row.append(self.read_ratio())
            self.read_spaces()
            if self.read_sign(",)") == ")":
                return tuple(row)

    def read_power(self):
        """The power of a POWER."""
        self.read_sign("x")
        if not self.is_at("^"):
            return 1
        self.taken += 1
        power = int(self.read_sign(DIGITS))
        if power == 1 and self.is_at("012"):
            return 10 + int(self.read_sign("012"))
        return power

    def read_term(self, sign):
        """A TERM with a sign, 1 or -1: a Poly."""
        top, bottom = (1, 1)
        if not self.is_at("x"):
            top, bottom = self.read_number()
            self.read_spaces()
            if not self.is_at("*"):
                return Poly([(sign * top, bottom)])
            self.taken += 1
            self.read_spaces()
        return Poly([0] * self.read_power() + [(sign * top, bottom)])

    def read_poly(self):
        """A text of a polynomial, as far as it goes."""
        self.read_spaces()
        sign = self.read_minus()
        poly = Poly(())
        while True:
            self.read_spaces()
            poly = poly + self.read_term(sign)
            self.read_spaces()
            if not self.is_at("+-"):
                return poly
            sign = 1 if self.read_sign("+-") == "+" else -1
