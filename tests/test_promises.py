"""Promise [63]: promises, whether they are kept, and their witnesses."""

import unittest
from fractions import Fraction

from bestlooks.curves import Near, is_best_on
from bestlooks.desk import Desk
from bestlooks.errors import BadRow, BadText, NoName, NotKept, Unlike
from bestlooks.lists import Best, best_for, is_best_for
from bestlooks.looks import Hidden, is_told_rightly, table_of
from bestlooks.orders import Worse, is_order
from bestlooks.signs import Over
from bestlooks.tables import Table
from tests.grammar import WORDS, made
from tests.judging import Numbers, dotted, form_by_hand, fr, frs, frss, pair_of, spread_by_hand
from tests.papers import inverse_by_hand, table_on
from tests.test_looks import row_by_hand
from tests.values import expect, fields_of

TEXT = """list l = (1, 0) (0, 1) (1, 1)
list flat = (1, 1) (2, 2)
list wide = (1, 0, 0) (0, 1, 0)
curve c from -1 to 1 = 1 ; x ; x^2
curve line from -1 to 1 = 1 ; x
design d = 1/2 at 0 ; 1/2 at 1
design e = 1/3 at 0 ; 1/3 at 1 ; 1/3 at 2
design ends = 1/4 at -1 ; 1/2 at 0 ; 1/4 at 1
design one = 1 at 0
design beyond = 1/2 at 0 ; 1/2 at 9
number n = (1, 1)
number m = (1, -2)
number far = (1, 2, 4)
number zero = (0, 0)
"""
RIGHT = ("a tells b", "  a  tells  b  ", "a tells b within 3/4 on c", " a tells b within -1 on c ", "a caps 7 on b", "  a   caps 1/2   on b",
         "no design tells a below 2 on b", "  no  design  tells a below 0 on bb1 ", "a beats b on c", "nod tells list1", "no1 beats no2 on no3",
         "abcdefgh caps " + "9" * 30 + " on c", "tellsa tells withina within 1 on ona")


def kept(promise, text=TEXT):
    return Desk(text).kept(promise)


class Reading(unittest.TestCase):
    @classmethod
    def setUpClass(cls):
        cls.wrong_at = staticmethod(made("promise"))

    def column(self, text):
        return fields_of(self, BadText, Desk(TEXT).kept, text)["column"]

    def same(self, text):
        """The desk finds the same column as the rules of the test's own."""
        column = self.wrong_at(text)
        for call in (Desk().kept, Desk().keep):
            if column is None:
                # The names of a right text are those of no item.
                self.assertIs(type(fields_of(self, NoName, call, text)), dict)
            else:
                self.assertEqual(fields_of(self, BadText, call, text), {"column": column}, repr(text))

    def test_columns_by_hand(self):
        for text, column in (("", 1), ("  ", 3), ("a", 2), ("a ", 3), ("a tell", 7), ("a tells", 8), ("a tells ", 9), ("a tellsb", 8), ("atells b", 9), ("atells c d", 9),
                             ("a tells b c", 11), ("a tells b,", 10), ("a tells b within", 17), ("a tells b within 1", 19), ("a tells b within 1 on", 22),
                             ("a tells b within 1 on c d", 25), ("a tells b within 1/0 on c", 20), ("a tells b within x on c", 18), ("a tells b with c", 15),
                             ("a tells b within - 1 on c", 19), ("a tells b on c", 11), ("a tells b within1 on c", 17), ("a tells b within 1on c", 19),
                             ("a caps b on c", 8), ("a caps 1", 9), ("a caps 1 at c", 10), ("a caps 1 on", 12), ("a caps 1 on c x", 15), ("a beats b", 10),
                             ("a beats b on", 13), ("a beats b on c on", 16), ("a beats 1 on c", 9), ("no", 3), ("no ", 4), ("no design", 10), ("no tells", 4),
                             ("no design tells", 16), ("no design tells a", 18), ("no design tells a below", 24), ("no design tells a below 1", 26),
                             ("no design tells a within 1 on b", 19), ("no design tells a below 1 on b c", 32), ("nodesign tells a below 1 on b", 18),
                             ("nod esign tells a", 5), ("1 tells b", 1), ("A tells b", 1), ("a  telLs b", 7), ("abcdefghi tells b", 9), ("a tells abcdefghi", 17),
                             ("a\ttells b", 2), ("a tells b\n", 10), ("a caps 00 on b", 9), ("a caps " + "9" * 31 + " on b", 38), ("a knows b", 3)):
            self.assertEqual(self.column(text), column, text)
            self.assertEqual(self.wrong_at(text), column, text)

    def test_words_are_no_names(self):
        for word in WORDS:
            if word != "no":
                self.assertEqual(self.column(f"{word} tells b"), len(word) + 1)
            self.assertEqual(self.column(f"a tells {word}"), len(word) + 9)
            self.assertEqual(self.column(f"a tells {word} within 1 on c"), len(word) + 9)
            self.assertEqual(self.column(f"a caps 1 on {word}"), len(word) + 13)
            self.assertEqual(self.column(f"a beats {word} on c"), len(word) + 9)
            self.assertEqual(self.column(f"no design tells {word} below 1 on c"), len(word) + 17)

    def test_cut_off(self):
        for text in RIGHT:
            self.assertIs(self.wrong_at(text), None)
            for end in range(len(text) + 1):
                self.same(text[:end])
                self.same(text[end:])

    def test_a_character_put_in(self):
        for text in RIGHT:
            for at in range(len(text) + 1):
                for sign in " x1aon0-/=~\t\n":
                    self.same(text[:at] + sign + text[at:])
                    self.same(text[:at] + sign + text[at + 1:])

    def test_drawn(self):
        numbers = Numbers(360)
        parts = ("a ", "b ", "tells ", "caps ", "beats ", "no ", "design ", "within ", "below ", "on ", "1 ", "-2/3 ", " ", "x ", "no", "c")
        for _ in range(3000):
            self.same("".join(numbers.one_of(parts) for _ in range(numbers.between(1, 8))))

    def test_no_strings(self):
        desk = Desk(TEXT)
        for value in (None, 0, True, b"l tells n", ["l tells n"], ("l", "n"), {}, 1.5, object()):
            for call in (desk.kept, desk.keep):
                self.assertEqual(fields_of(self, BadText, call, value), {"column": 0})

    def test_spaces(self):
        for text in ("l tells n", "  l   tells  n ", "l tells n  "):
            self.assertEqual(kept(text), (True, None))


class Names(unittest.TestCase):
    def no_name(self, text, name):
        for call in (Desk(TEXT).kept, Desk(TEXT).keep):
            self.assertEqual(fields_of(self, NoName, call, text), {"name": name}, text)

    def test_the_first_from_the_left(self):
        for text, name in (("q tells n", "q"), ("l tells q", "q"), ("q tells r", "q"), ("d tells n", "d"), ("n tells l", "n"), ("l tells l", "l"),
                           ("l tells d", "d"), ("l tells n within 1 on l", "l"), ("d tells l within 1 on l", "l"), ("d tells n within 1 on d", "d"),
                           ("d tells n within 1 on n", "n"), ("d tells q within 1 on r", "q"), ("q tells r within 1 on s", "q"),
                           ("l caps 1 on l", "l"), ("d caps 1 on e", "e"), ("q caps 1 on r", "q"), ("l beats d on l", "l"), ("d beats n on l", "n"),
                           ("d beats e on d", "d"), ("d beats q on r", "q"), ("no design tells l below 1 on l", "l"), ("no design tells n below 1 on d", "d"),
                           ("no design tells q below 1 on r", "q"), ("no design tells d below 1 on q", "d")):
            self.no_name(text, name)


class Telling(unittest.TestCase):
    def test_kept(self):
        for text in ("l tells n", "l tells m", "flat tells n", "c tells far", "line tells n", "l tells zero", "flat tells zero"):
            self.assertEqual(kept(text), (True, None))

    def test_witness(self):
        for text, looks, number in (("flat tells m", "flat", "m"),):
            desk = Desk(TEXT)
            found, witness = desk.kept(text)
            self.assertIs(found, False)
            self.assertIs(type(witness), Hidden)
            self.assertIs(is_told_rightly(desk.get(looks), desk.get(number), witness), True)
        found, witness = kept("k tells n", "curve k from 0 to 1 = 1 ; 2\nnumber n = (1, 1)")
        self.assertEqual((found, type(witness)), (False, Hidden))
        self.assertEqual(frs(witness.z)[0] + 2 * frs(witness.z)[1], 0)
        self.assertEqual(sum(frs(witness.z)), 1)

    def test_errors(self):
        for text in ("l tells far", "c tells n", "wide tells n"):
            desk = Desk(TEXT)
            number = desk.get(text.split()[2])
            expect(self, BadRow, {"row": number}, desk.kept, text)
            expect(self, BadRow, {"row": number}, desk.keep, text)


class Within(unittest.TestCase):
    def spread(self, design, number, looks):
        desk = Desk(TEXT)
        return spread_by_hand(table_on(desk.get(looks), desk.get(design)), frs(desk.get(number)))

    def test_bounds(self):
        little = Fraction(1, 10 ** 12)
        for design, number, looks in (("d", "n", "l"), ("d", "m", "l"), ("e", "n", "l"), ("e", "m", "l"), ("ends", "far", "c"), ("ends", "n", "line"),
                                      ("e", "n", "flat"), ("one", "zero", "l"), ("d", "n", "flat")):
            if design == "e" and looks == "flat":
                continue
            spread = self.spread(design, number, looks)
            for bound, holds in ((spread, True), (spread + little, True), (spread - little, False), (spread + 1, True), (Fraction(-1), False)):
                top, bottom = pair_of(bound)
                found = kept(f"{design} tells {number} within {top}/{bottom} on {looks}")
                self.assertEqual(found, (True, None) if holds else (False, (pair_of(spread),)))

    def test_not_told(self):
        self.assertEqual(kept("one tells n within 1000000 on l"), (False, ()))
        self.assertEqual(kept("d tells m within 5 on flat"), (False, ()))
        self.assertEqual(kept("d tells far within 5 on c"), (False, ()))

    def test_errors(self):
        for text in ("beyond tells n within 1 on l", "ends tells n within 1 on l", "beyond tells far within 1 on c", "e tells n within 1 on flat",
                     "e tells n within 1 on line", "e tells n within 1 on c"):
            self.assertEqual(fields_of(self, Unlike, Desk(TEXT).kept, text), {"what": "place"}, text)
        desk = Desk(TEXT)
        expect(self, BadRow, {"row": desk.get("far")}, desk.kept, "d tells far within 1 on l")
        expect(self, BadRow, {"row": desk.get("n")}, desk.kept, "d tells n within 1 on c")


class Caps(unittest.TestCase):
    def test_bounds(self):
        # d on l: the table is a half of the unit table; the rows have the squares 2, 2 and 4. The line's ends: 2.
        for text, greatest in (("d caps {} on l", Fraction(4)), ("e caps {} on l", Fraction(2)), ("ends caps {} on c", Fraction(4))):
            for bound, holds in ((greatest, True), (greatest + Fraction(1, 10 ** 12), True), (greatest - Fraction(1, 10 ** 12), False), (Fraction(0), False)):
                top, bottom = pair_of(bound)
                promise = text.format(f"{top}/{bottom}")
                desk = Desk(TEXT)
                found, witness = desk.kept(promise)
                self.assertIs(found, holds)
                if holds:
                    self.assertIs(witness, None)
                else:
                    self.assertIs(type(witness), Over)
                    looks, design = desk.get(text[-1]), desk.get(text.split()[0])
                    value = form_by_hand(inverse_by_hand(table_on(looks, design)), row_by_hand(looks, witness.place))
                    self.assertEqual(value, fr(witness.number))
                    self.assertTrue(value > bound)

    def test_no_inverse(self):
        for text in ("one caps 1000 on l", "d caps 1000 on flat", "d caps 5 on c", "d caps 5 on wide"):
            self.assertEqual(kept(text), (False, ()))

    def test_errors(self):
        for text in ("beyond caps 1 on l", "ends caps 1 on l", "beyond caps 1 on c", "e caps 9 on line"):
            self.assertEqual(fields_of(self, Unlike, Desk(TEXT).kept, text), {"what": "place"})


class NoDesign(unittest.TestCase):
    def test_lists(self):
        little = Fraction(1, 10 ** 12)
        for number in ("n", "m", "zero"):
            desk = Desk(TEXT)
            size = fr(best_for(desk.get("l"), desk.get(number)).size)
            for bound, holds in ((size ** 2, True), (size ** 2 - little, True), (size ** 2 + little, False), (Fraction(-5), True)):
                top, bottom = pair_of(bound)
                found, witness = desk.kept(f"no design tells {number} below {top}/{bottom} on l")
                self.assertIs(found, holds, (number, bound))
                if holds:
                    self.assertIs(witness, None)
                else:
                    self.assertIs(type(witness), Best)
                    self.assertIs(is_best_for(desk.get("l"), desk.get(number), witness), True)
                    self.assertTrue(fr(witness.size) ** 2 < bound)
        # What no design tells is below no bound.
        self.assertEqual(kept("no design tells m below 1000000 on flat"), (True, None))

    def test_curves(self):
        # far: the value at 2 of what is told from -1 to 1 has the least spread 49, and its z comes near by 1/4096.
        desk = Desk(TEXT)
        self.assertEqual(desk.kept("no design tells far below 48 on c"), (True, None))
        for bound in ("49000001/1000000", "50", "1000000"):
            found, witness = desk.kept(f"no design tells far below {bound} on c")
            self.assertIs(found, False)
            self.assertIs(type(witness), Near)
            self.assertIs(is_best_on(desk.get("c"), desk.get("far"), 12, witness), True)
            self.assertTrue(dotted(frs(witness.z), frs(desk.get("far"))) ** 2 < Fraction(*map(int, (bound + "/1").split("/")[:2])))
        self.assertEqual(kept("no design tells n below 9 on k", "curve k from 0 to 1 = 1 ; 2\nnumber n = (1, 1)"), (True, None))

    def test_errors(self):
        desk = Desk(TEXT)
        expect(self, BadRow, {"row": desk.get("far")}, desk.kept, "no design tells far below 1 on l")
        expect(self, BadRow, {"row": desk.get("n")}, desk.kept, "no design tells n below 1 on c")


class Beating(unittest.TestCase):
    def test_both_ways(self):
        desk = Desk(TEXT + "design more = 1/2 at 0 ; 1/4 at 1 ; 1/4 at 2\n")
        for text, holds in (("d beats d on l", True), ("e beats e on l", True), ("d beats e on l", False), ("e beats d on l", False),
                            ("d beats one on l", False), ("d beats one on flat", True), ("d beats d on flat", True), ("ends beats ends on c", True),
                            ("d beats one on line", False), ("one beats d on flat", False)):
            found, witness = desk.kept(text)
            self.assertIs(found, holds, text)
            if holds:
                self.assertIs(witness, None)
            else:
                self.assertIs(type(witness), Worse)
                one, _, other, _, looks = text.split()
                tables = [table_of(desk.get(looks), desk.get(name)) for name in (one, other)]
                self.assertIs(is_order(tables[0], tables[1], witness), True)
        two = "list k = (1) (2)\ndesign p = 1 at 1\ndesign q = 1 at 0\n"
        self.assertEqual(kept("p beats q on k", two), (True, None))
        found, witness = kept("q beats p on k", two)
        self.assertEqual((found, type(witness)), (False, Worse))
        self.assertEqual(fr(witness.mine), 4 * fr(witness.theirs))

    def test_errors(self):
        for text in ("beyond beats d on l", "d beats beyond on l", "beyond beats ends on l", "e beats d on flat", "d beats e on line"):
            self.assertEqual(fields_of(self, Unlike, Desk(TEXT).kept, text), {"what": "place"})


class Keeping(unittest.TestCase):
    def test_what_is_not_kept_is_not_made(self):
        desk = Desk(TEXT)
        for text in ("flat tells m", "d tells n within 1 on l", "one tells n within 5 on l", "d caps 3 on l", "one caps 3 on l",
                     "no design tells n below 2 on l", "d beats e on l", "no design tells far below 50 on c"):
            fields = fields_of(self, NotKept, desk.keep, text)
            self.assertEqual(fields["promise"], text)
            self.assertEqual(type(fields["witness"]), type(desk.kept(text)[1]))
            self.assertEqual((desk.promises(), desk.broken()), ((), ()))
        for text in ("flat tells n", "d tells n within 4 on l", "d caps 4 on l", "no design tells n below 1 on l", "d beats d on l"):
            desk.keep(text)
            desk.keep(text)
        self.assertEqual(len(desk.promises()), 5)
        self.assertEqual(Table(frss_of(desk.get("l"))).height, 3)


def frss_of(rows):
    return [[pair_of(item) for item in row] for row in frss(rows.rows)]


if __name__ == "__main__":
    unittest.main()
