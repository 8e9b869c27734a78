"""Promise [62]: texts of items."""

import unittest

from bestlooks.desk import Desk
from bestlooks.errors import BadLine
from bestlooks.looks import Curve, Design, Rows
from bestlooks.polys import Poly
from tests.grammar import WORDS, made
from tests.judging import Numbers
from tests.values import expect, fields_of

X = Poly((0, 1))
ONE = Poly((1,))
RIGHT = ("list a = (1, 2) (3/4, -5)", "list ab1=(0)", "  list  rows  =  ( 1 ,2)( -3/9 , 4 )  (5,6) ", "number n = (1)",
         "number n2 = ( -1/2 , 0 ,3 )  ", "curve c from 0 to 1 = 1 ; x ; x^2", "curve c  from  -1/2  to  7/2=1;x", " curve k1 from -3 to 0 = - x + 1/2*x^2;0 ",
         "design d = 1/2 at 0 ; 1/2 at 1", "design dd=1  at  -5/3  ", "design d = 1/4 at -1;1/2  at 0  ;  1/4 at 1", "list list1 = (1)",
         "number x1 = (7)", "number tellsit = (7)", "list abcdefgh = (1)", "design on2 = 1 at 0", "curve to2 from 1 to 2 = 5")


class Lines(unittest.TestCase):
    @classmethod
    def setUpClass(cls):
        cls.wrong_at = staticmethod(made("item"))

    def test_kinds(self):
        desk = Desk("list l = (1, 2) (3/6, -5)\ncurve c from -1/2 to 7 = 1 ; x - 2*x^2\ndesign d = 1/4 at -1; 3/4 at 2/4\nnumber n = (1, 4/2)\n")
        self.assertEqual(desk.names(), ("l", "c", "d", "n"))
        self.assertIs(type(desk.get("l")), Rows)
        self.assertEqual(desk.get("l").rows, (((1, 1), (2, 1)), ((1, 2), (-5, 1))))
        curve = desk.get("c")
        self.assertIs(type(curve), Curve)
        self.assertEqual((curve.low, curve.high, len(curve.polys)), ((-1, 2), (7, 1), 2))
        self.assertEqual(curve.polys, (ONE, X - 2 * X * X))
        self.assertEqual(desk.get("d"), Design((-1, (1, 2)), ((1, 4), (3, 4))))
        self.assertEqual(desk.get("n"), ((1, 1), (2, 1)))

    def test_empty_lines(self):
        for text in ("", "\n", "   ", "\n\n  \n", "  \n "):
            self.assertEqual((Desk(text).names(), Desk(text).lines()), ((), ""))
        desk = Desk("\n  \nlist a = (1)\n\n   \nlist b = (2)")
        self.assertEqual(desk.lines(), "list a = (1)\nlist b = (2)\n")
        self.assertEqual(Desk().lines(), "")

    def test_right_ones(self):
        for text in RIGHT:
            self.assertIs(self.wrong_at(text), None, text)
            name = Desk(text).names()[0]
            self.assertEqual(Desk(text + "\n\n").names(), (name,))
            # Written out, they stay the same.
            written = Desk(text).lines()
            self.assertEqual(Desk(written).lines(), written)

    def test_written_out(self):
        for text, written in (("list ab1=(0)", "list ab1 = (0)"), (RIGHT[2], "list rows = (1, 2) (-1/3, 4) (5, 6)"),
                              ("number n2 = ( -2/4 , 0 ,3 )  ", "number n2 = (-1/2, 0, 3)"),
                              ("curve c  from  -2/4  to  7/2=1;x  + 0*x^2 -1", "curve c from -1/2 to 7/2 = 1 ; -1 + x"),
                              (" curve k1 from -3 to 0 = - x + 1/2*x^2;x-x ", "curve k1 from -3 to 0 = -x + 1/2*x^2 ; 0"),
                              ("design d = 1/4 at -1;2/4  at 0  ;  1/4 at 6/4", "design d = 1/4 at -1 ; 1/2 at 0 ; 1/4 at 3/2")):
            self.assertEqual(Desk(text).lines(), written + "\n")

    def wrong(self, text, line, column):
        self.assertEqual(fields_of(self, BadLine, Desk, text), {"line": line, "column": column}, repr(text))
        self.assertEqual(fields_of(self, BadLine, Desk("list a = (1)").put, text), {"line": line, "column": column})

    def test_columns_by_hand(self):
        for text, column in (
                ("l", 2), ("lisp a", 4), ("List a = (1)", 1), ("list", 5), ("list ", 6), ("lista = (1)", 5), ("list  1a = (1)", 7),
                ("list A = (1)", 6), ("list a", 7), ("list a (1)", 8), ("list a =", 9), ("list a = ", 10), ("list a = 1", 10),
                ("list a = (", 11), ("list a = ()", 11), ("list a = (1", 12), ("list a = (1,)", 13), ("list a = (1 2)", 13),
                ("list a = (1),(2)", 13), ("list a = (1) x", 14), ("list a = (1))", 13), ("list a = ((1))", 11), ("list a = (- 1)", 12),
                ("list a = (+1)", 11), ("list a = (1/0)", 13), ("list a = (01)", 12), ("list a == (1)", 9), ("list a = (1.5)", 12),
                ("list a b = (1)", 8), ("list a=(" + "9" * 31 + ")", 39), ("number n = (1) (2)", 16), ("number n = 1", 12),
                ("numbers n = (1)", 7), ("number n = (1);", 15), ("curve c", 8), ("curve c = 1", 9), ("curve c from 0", 15),
                ("curve c from 0 = 1", 16), ("curve c from0 to 1 = x", 13), ("curve cfrom 0 to 1 = x", 13), ("curve c from 0to 1 = x", 15),
                ("curve c from-1 to 1 = x", 13), ("curve c from 0 to 1", 20), ("curve c from 0 to 1 =", 22), ("curve c from 0 to 1 x", 21),
                ("curve c from 0 to 1 = ;", 23), ("curve c from 0 to 1 = x ;", 26), ("curve c from 0 to 1 = x ; ", 27),
                ("curve c from 0 to 1 = 2x", 24), ("curve c from 0 to 1 = x, x", 24), ("curve c from 0 to 1 = x^13", 26),
                ("curve c from - 1 to 1 = x", 15), ("curve c to 1 from 0 = x", 9), ("curve c from 0 to 1 = y", 23),
                ("design d", 9), ("design d =", 11), ("design d = 1", 13), ("design d = 1 at", 16), ("design d = 1 at ", 17),
                ("design d = 1at 0", 13), ("design d = 1 at0", 16), ("design d = 1 at 0 ;", 20), ("design d = 1 at 0 1 at 1", 19),
                ("design d = 1 at 0, 1 at 1", 18), ("design d = 1 on 0", 14), ("design d = (1)", 12), ("design d = 1 at x", 17),
                ("design d = ; 1 at 0", 12), ("\tlist a = (1)", 1), ("list\ta = (1)", 5), ("list a = (1)\t", 13), ("(1)", 1), ("= 1", 1),
                ("list a - (1)", 8), ("x = (1)", 1), ("  d", 4), ("   q", 4)):
            self.assertEqual(self.wrong_at(text), column, text)
            self.wrong(text, 1, column)
            self.wrong("\n  \nnumber z = (1)\n" + text + "\nlist", 4, column)

    def test_names(self):
        for name in ("a", "z9", "abcdefgh", "a1234567", "xx", "x1", "lists", "nope", "o", "tell", "caps2", "designs"):
            self.assertEqual(Desk(f"list {name} = (1)").names(), (name,))
            self.assertEqual(Desk(f"list {name}=(1)").names(), (name,))
        for name in ("abcdefghi", "a12345678", "abcdefghijkl"):
            self.wrong(f"list {name} = (1)", 1, 14)
            self.wrong(f"curve {name}", 1, 15)
        for word in WORDS:
            # A word is the beginning of a name: it is wrong behind its end.
            for end in (" = (1)", "", "=(1)", "!"):
                self.wrong(f"list {word}{end}", 1, 6 + len(word))
                self.wrong(f"  number  {word}{end}", 1, 11 + len(word))
        self.wrong("list 9 = (1)", 1, 6)
        self.wrong("list a_b = (1)", 1, 7)

    def test_names_told_already(self):
        head = "list ab = (1)\nnumber cd = (1)\n"
        for line, column in (("list ab = (1)", 6), ("number ab = (2)", 8), ("  design   cd = 1 at 0", 12), ("curve cd", 7), ("list ab", 6),
                             ("list ab!", 6), ("list ab = (", 6), ("list ab = (1)(2,3)", 6), ("curve ab from 2 to 1 = x", 7),
                             ("list abc = (", 13), ("list a", 7), ("list abcdefghi", 14), ("lost ab = (1)", 2), ("list c = (1) ab", 14)):
            self.wrong(head + line, 3, column)
        # A run of more than eight has no end that could be a name told already.
        self.wrong("list abcdefgh = (1)\nlist abcdefghi = (1)", 2, 14)
        self.wrong("list abcdefgh = (1)\nlist abcdefgh", 2, 6)
        # Each text by itself: an item of the desk is no hindrance.
        desk = Desk(head)
        desk.put("list ab = (7)")
        self.assertEqual(desk.lines(), "list ab = (7)\nnumber cd = (1)\n")
        # The first wrong line counts, whatever is wrong with it.
        self.wrong("list ab = (1)(2,3)\nlist ab = (1)", 1, 19)
        self.wrong("list ab = (1)\nlist ab = (1)\nlist", 2, 6)

    def test_right_lines_of_none(self):
        for text in ("list a = (1) (1, 2)", "list a = (1, 2)(3)", "list a = (1) (1, 2)  ", "curve c from 1 to 1 = x", "curve c from 2/2 to 1 = x ",
                     "curve c from 1 to -1 = x", "design d = 1/2 at 0", "design d = 1/2 at 0 ; 1/2 at 0", "design d = 1/2 at 1 ; 1/2 at 0  ",
                     "design d = 0 at 0 ; 1 at 1", "design d = -1 at 0 ; 2 at 1", "design d = 1/2 at 0 ; 1/2 at 1 ; 1/2 at 2",
                     "design d = 1/2 at 1/2 ; 1/2 at 2/4"):
            self.assertIs(self.wrong_at(text), None)
            self.wrong(text, 1, len(text) + 1)
            self.wrong("number n = (1)\n" + text, 2, len(text) + 1)

    def same(self, text):
        """The desk finds the same column as the rules of the test's own; a right line may still be none."""
        column = self.wrong_at(text)
        try:
            Desk(text)
            found = None
        except BadLine as error:
            self.assertEqual(error.line, 1)
            found = error.column
        if column is None:
            self.assertIn(found, (None, len(text) + 1), repr(text))
        elif text.strip(" ") or found is not None:
            self.assertEqual(found, column, repr(text))

    def test_cut_off(self):
        for text in RIGHT:
            for end in range(len(text)):
                self.same(text[:end])
                self.same(text[end:])

    def test_a_character_put_in(self):
        for text in RIGHT:
            for at in range(len(text) + 1):
                for sign in " x1a0(,)=;-/^*+\t~":
                    self.same(text[:at] + sign + text[at:])
                    self.same(text[:at] + sign + text[at + 1:])

    def test_drawn(self):
        numbers = Numbers(350)
        parts = ("list ", "curve ", "design ", "number ", "a", "x", " = ", "=", "(", "1", ", ", ")", " from ", " to ", " at ", ";", "-", " ", "2/3")
        for _ in range(3000):
            self.same("".join(numbers.one_of(parts) for _ in range(numbers.between(1, 9))))

    def test_no_strings(self):
        for value in (None, 0, True, b"list a = (1)", ["list a = (1)"], (), {}, 1.5, object(), Desk):
            expect(self, BadLine, {"line": 0, "column": 0}, Desk, value)
            expect(self, BadLine, {"line": 0, "column": 0}, Desk().put, value)


if __name__ == "__main__":
    unittest.main()
