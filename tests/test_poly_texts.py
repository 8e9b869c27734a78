"""Promise [61]: texts of polynomials."""

import unittest
from fractions import Fraction

from bestlooks.errors import BadText
from bestlooks.polys import Poly
from bestlooks.texts import poly_of, poly_text
from tests.grammar import made
from tests.judging import Numbers, fr, pair_of
from tests.values import expect, fields_of

X = Poly((0, 1))
RIGHT = ("0", "x", "1 - 1/2*x^2", "-x", " - x ", "12", "7", "3/4*x + 5", "x^12-x^11+x^10 -  1/3 * x^9", "x^0", "x^1+x^2",
         "x+x", "0/5", "10/20*x", "-3 + 3", "9" * 30 + "/" + "1" + "0" * 29 + "*x", "2  *  x^3", "   7   ", "x - x", "0*x^12")


class Reading(unittest.TestCase):
    @classmethod
    def setUpClass(cls):
        cls.wrong_at = staticmethod(made("poly"))

    def test_what_they_stand_for(self):
        for text, poly in (("0", Poly(())), ("x", X), ("-x", -X), ("x^0", Poly((1,))), ("x^1", X), ("7", Poly((7,))),
                           ("3/4", Poly(((3, 4),))), ("6/4*x", X * (3, 2)), ("0*x^5", Poly(())),
                           ("1 - 1/2*x^2", Poly((1, 0, (-1, 2)))), ("x+x+x", 3 * X), ("x - x", Poly(())), ("-3 - 4", Poly((-7,))),
                           ("- 2 * x ", -2 * X), ("x^12", Poly([0] * 12 + [1])), ("5 + x^3 - 2*x^3", Poly((5, 0, 0, -1))),
                           ("1/2 + 1/3", Poly(((5, 6),))), ("  x^2  -  1/3 * x  ", Poly((0, (-1, 3), 1))), ("x^10+x^11", Poly([0] * 10 + [1, 1])),
                           ("9" * 30, Poly((10 ** 30 - 1,))), ("1/" + "9" * 30, Poly(((1, 10 ** 30 - 1),))), ("-0", Poly(()))):
            self.assertEqual(poly_of(text), poly, text)
        for k in range(13):
            self.assertEqual(poly_of(f"x^{k}"), Poly([0] * k + [1]))

    def test_columns_by_hand(self):
        for text, column in (("", 1), ("  ", 3), ("+", 1), ("+x", 1), ("-", 2), ("- ", 3), ("--x", 2), ("x^", 3), ("x^13", 4),
                             ("x^20", 4), ("x^05", 4), ("x^012", 4), ("x^123", 5), ("00", 2), ("01", 2), ("1/0", 3), ("1/", 3),
                             ("1/02", 3), ("1/-2", 3), ("2x", 2), ("2 x", 3), ("x2", 2), ("x*2", 2), ("2*", 3), ("2*3", 3), ("2**x", 3),
                             ("2*-x", 3), ("x+", 3), ("x + ", 5), ("x+-x", 3), ("x x", 3), ("1 2", 3), ("1 /2", 3), ("1/ 2", 3),
                             ("x ^2", 3), ("x^ 2", 3), ("X", 1), ("y", 1), ("1.5", 2), ("(x)", 1), ("1\t", 2), ("\tx", 1), ("x\n", 2),
                             ("9" * 31, 31), ("1/" + "9" * 31, 33), ("x;", 2), ("-1/2/3", 5), ("x^-1", 3), ("x**2", 2)):
            self.assertEqual(fields_of(self, BadText, poly_of, text), {"column": column}, text)
            self.assertEqual(self.wrong_at(text), column, text)

    def same(self, text):
        """poly_of finds the same column as the rules of the test's own."""
        column = self.wrong_at(text)
        if column is None:
            self.assertIs(type(poly_of(text)), Poly)
        else:
            self.assertEqual(fields_of(self, BadText, poly_of, text), {"column": column}, repr(text))

    def test_cut_off(self):
        for text in RIGHT:
            self.assertIs(self.wrong_at(text), None, text)
            for end in range(len(text) + 1):
                self.same(text[:end])
                self.same(text[end:])

    def test_a_character_put_in(self):
        for text in RIGHT:
            for at in range(0, len(text) + 1, 1 if len(text) < 40 else 7):
                for sign in "x^*+-/ 0123;(=\t\nab~":
                    self.same(text[:at] + sign + text[at:])
                    self.same(text[:at] + sign + text[at + 1:])

    def test_drawn(self):
        numbers = Numbers(340)
        for _ in range(3000):
            self.same("".join(numbers.one_of("xx^*+-/  0123") for _ in range(numbers.between(1, 9))))

    def test_no_strings(self):
        for value in (None, 0, 1, True, b"x", ["x"], ("x",), {"x": 1}, X, 1.5, object(), str):
            self.assertEqual(fields_of(self, BadText, poly_of, value), {"column": 0})

    def test_strange_strings(self):
        # Digits and spaces of other scripts are none here.
        for text in ("\u0661", "x\u00b2", "\u00a0x", "1\u2007"):
            column = 1 if text[0] not in "x1" else 2
            self.assertEqual(fields_of(self, BadText, poly_of, text), {"column": column})


class Writing(unittest.TestCase):
    def test_by_hand(self):
        for poly, text in ((Poly(()), "0"), (Poly((0, 0)), "0"), (Poly((1,)), "1"), (Poly((-1,)), "-1"), (X, "x"), (-X, "-x"),
                           (Poly((0, 0, 1)), "x^2"), (Poly((0, 0, -1)), "-x^2"), (Poly((1, 0, (-1, 2))), "1 - 1/2*x^2"),
                           (Poly(((-3, 4), 1, -1, 5)), "-3/4 + x - x^2 + 5*x^3"), (Poly((0, (2, 4))), "1/2*x"),
                           (Poly((1, 1, 1)), "1 + x + x^2"), (Poly((-1, -1, -1)), "-1 - x - x^2"), (Poly((0, 2)), "2*x"),
                           (Poly([0] * 12 + [(-7, 3)]), "-7/3*x^12"), (Poly([0] * 15 + [1]), "x^15"),
                           (Poly((10 ** 40,)), "1" + "0" * 40)):
            self.assertEqual(poly_text(poly), text)

    def test_there_and_back(self):
        numbers = Numbers(341)
        for _ in range(200):
            row = [numbers.one_of((0, 1, -1, numbers.ratio(), numbers.ratio(10 ** 29, 10 ** 29))) for _ in range(numbers.between(0, 13))]
            poly = Poly(row)
            self.assertEqual(poly_of(poly_text(poly)), poly)
            value = sum((fr(number) * Fraction(3, 7) ** k for k, number in enumerate(poly.numbers)), Fraction(0))
            self.assertEqual(poly.at((3, 7)), pair_of(value))

    def test_no_change(self):
        expect(self, BadText, {"column": 1}, poly_of, "")
        poly = Poly((1, -2))
        self.assertEqual((poly_text(poly), poly_text(poly), poly), ("1 - 2*x", "1 - 2*x", Poly((1, -2))))


if __name__ == "__main__":
    unittest.main()
