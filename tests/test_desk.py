"""Promises [64], [65] and [66]: the desk."""

import unittest

from bestlooks.desk import Desk
from bestlooks.errors import BadLine, BadName, BadRow, BadText, LookError, NoName, NotKept, NothingToRedo, NothingToUndo
from bestlooks.errors import TakenName, Unlike
from bestlooks.looks import Design, Hidden, Rows
from tests.grammar import WORDS
from tests.values import expect, fields_of

TEXT = "list l = (1, 0) (0, 1)\ndesign d = 1/2 at 0 ; 1/2 at 1\nnumber n = (1, 1)\n"
NO_NAMES = WORDS + ("", " ", "a ", " a", "A", "1", "1a", "a_b", "a-b", "abcdefghi", "a\n", "\u00e4", "a\u0661")
NO_STRINGS = (None, 0, 1, True, b"l", ["l"], ("l",), {"l": 1}, {"l"}, [], 1.5, object(), Desk)


def state_of(desk):
    return desk.lines(), desk.names(), desk.promises()


class Boom(Exception):
    pass


class Edits(unittest.TestCase):
    def test_put(self):
        desk = Desk(TEXT)
        self.assertIs(desk.put("number m = (2, 3)\nlist k = (1)"), None)
        self.assertEqual(desk.names(), ("l", "d", "n", "m", "k"))
        self.assertIs(desk.put("number n = (5, 5)"), None)
        # Of another kind, in the same place.
        desk.put("list d = (7)\nnumber l = (1)\ncurve z from 0 to 1 = x")
        self.assertEqual(desk.names(), ("l", "d", "n", "m", "k", "z"))
        self.assertEqual(desk.lines(), "number l = (1)\nlist d = (7)\nnumber n = (5, 5)\nnumber m = (2, 3)\nlist k = (1)\ncurve z from 0 to 1 = x\n")
        for text, line, column in (("list a", 1, 7), ("\nnumber a = (1)\nnumber a = (2)", 3, 8), ("number a = (1)\nlist b = (1)(1,2)", 2, 18)):
            before = state_of(desk)
            self.assertEqual(fields_of(self, BadLine, desk.put, text), {"line": line, "column": column})
            self.assertEqual(state_of(desk), before)
        desk.undo()
        self.assertEqual(desk.get("n"), ((5, 1), (5, 1)))
        self.assertIs(type(desk.get("d")), Design)

    def test_drop(self):
        desk = Desk(TEXT + "number m = (0, 1)\n")
        for promise in ("l tells n", "l tells m", " d tells n within 4 on l", "no design tells m below 1 on l"):
            desk.keep(promise)
        self.assertIs(desk.drop("n"), None)
        self.assertEqual((desk.names(), desk.promises()), (("l", "d", "m"), ("l tells m", "no design tells m below 1 on l")))
        desk.undo()
        self.assertEqual(len(desk.promises()), 4)
        desk.drop("l")
        self.assertEqual((desk.names(), desk.promises()), (("d", "n", "m"), ()))
        desk.undo()
        desk.redo()
        self.assertEqual((desk.names(), desk.promises()), (("d", "n", "m"), ()))
        for name in ("l", "q", "", "L", "n ", "list") + NO_STRINGS:
            expect(self, NoName, {"name": name}, desk.drop, name)

    def test_drop_of_an_item_of_another_kind(self):
        desk = Desk(TEXT)
        desk.keep("l tells n")

        def action(tried):
            tried.put("number l = (3)")
            tried.drop("l")
            return tried.promises()

        self.assertEqual(desk.attempt(action), ())
        self.assertEqual((desk.names(), desk.promises()), (("d", "n"), ()))

    def test_rename(self):
        desk = Desk(TEXT)
        promises = ("l tells n", "  d   tells n  within 8/2 on l ", "no design tells n below 1 on l", "d beats d on l", "d caps 2 on l")
        for promise in promises:
            desk.keep(promise)
        self.assertIs(desk.rename("l", "looks"), None)
        self.assertEqual(desk.names(), ("looks", "d", "n"))
        self.assertEqual(desk.promises(), tuple(promise.replace("l ", "looks ", 1) if promise.startswith("l ") else
                                                promise[::-1].replace("l", "skool", 1)[::-1] for promise in promises))
        desk.rename("d", "tellsn")
        desk.rename("n", "on1")
        self.assertEqual(desk.promises(), ("looks tells on1", "  tellsn   tells on1  within 8/2 on looks ",
                                           "no design tells on1 below 1 on looks", "tellsn beats tellsn on looks", "tellsn caps 2 on looks"))
        self.assertEqual(desk.broken(), ())
        for _ in range(3):
            desk.undo()
        self.assertEqual(desk.promises(), promises)
        self.assertEqual(desk.lines(), TEXT)

    def test_rename_errors_in_their_order(self):
        desk = Desk(TEXT)
        for new in NO_NAMES + NO_STRINGS:
            for name in ("l", "q", None):
                expect(self, BadName, {"name": new}, desk.rename, name, new)
        for name in ("q", "", "L", "l ") + NO_STRINGS:
            for new in ("k", "l"):
                expect(self, NoName, {"name": name}, desk.rename, name, new)
        for name, new in (("l", "l"), ("l", "d"), ("n", "l")):
            expect(self, TakenName, {"name": new}, desk.rename, name, new)
        self.assertEqual(state_of(desk), (TEXT, ("l", "d", "n"), ()))
        desk.rename("l", "abcdefgh")

    def test_keep_and_release(self):
        desk = Desk(TEXT)
        self.assertIs(desk.keep("l tells n"), None)
        self.assertIs(desk.keep("l  tells n"), None)
        self.assertIs(desk.keep("l tells n"), None)
        # Texts that are not equal are two promises; a promise is not made twice.
        self.assertEqual(desk.promises(), ("l tells n", "l  tells n"))
        for promise in ("l tells n ", "d tells n", "", "l") + NO_STRINGS:
            expect(self, NoName, {"name": promise}, desk.release, promise)
        self.assertIs(desk.release("l tells n"), None)
        self.assertEqual(desk.promises(), ("l  tells n",))
        expect(self, NoName, {"name": "l tells n"}, desk.release, "l tells n")
        desk.keep("l tells n")
        self.assertEqual(desk.promises(), ("l  tells n", "l tells n"))

    def test_keep_tells_errors_of_promises_made(self):
        desk = Desk(TEXT)
        desk.keep("l tells n")

        def action(tried):
            tried.put("number l = (3)")
            with self.assertRaises(NoName) as caught:
                tried.keep("l tells n")
            self.assertEqual(vars(caught.exception), {"name": "l"})
            with self.assertRaises(BadText):
                tried.keep("l tells")
            tried.undo()
            return tried.promises()

        self.assertEqual(desk.attempt(action), ("l tells n",))

    def test_get(self):
        desk = Desk(TEXT)
        self.assertEqual(desk.get("l").rows, Rows([[1, 0], [0, 1]]).rows)
        self.assertEqual(desk.get("d"), Design((0, 1), ((1, 2), (1, 2))))
        self.assertEqual(desk.get("n"), ((1, 1), (1, 1)))
        self.assertIs(desk.get("l"), desk.get("l"))
        for name in ("q", "", "L", "l ") + NO_STRINGS:
            expect(self, NoName, {"name": name}, desk.get, name)

    def test_answers_are_tuples(self):
        desk = Desk()
        self.assertEqual((desk.lines(), desk.names(), desk.promises(), desk.broken()), ("", (), (), ()))
        desk = Desk(text=TEXT)
        self.assertEqual(desk.kept("l tells n"), (True, None))
        self.assertIs(type(desk.names()), tuple)
        self.assertIs(type(desk.promises()), tuple)


class Guarding(unittest.TestCase):
    """Edits behind which a promise would not be kept, or can no longer be asked."""

    def desk(self):
        desk = Desk(TEXT + "number m = (0, 1)\n")
        desk.keep("l tells n")
        desk.keep("d tells n within 4 on l")
        return desk

    def refused(self, error, text):
        desk = self.desk()
        before = state_of(desk)
        fields = fields_of(self, error, desk.put, text)
        self.assertEqual(state_of(desk), before)
        self.assertEqual(desk.broken(), ())
        # Nothing was done that could be undone.
        desk.undo()
        self.assertEqual(desk.promises(), ("l tells n",))
        return fields

    def test_not_kept(self):
        fields = self.refused(NotKept, "list l = (1, 0)")
        self.assertEqual((fields["promise"], type(fields["witness"])), ("l tells n", Hidden))
        fields = self.refused(NotKept, "design d = 1/5 at 0 ; 4/5 at 1")
        self.assertEqual(fields, {"promise": "d tells n within 4 on l", "witness": ((25, 4),)})
        fields = self.refused(NotKept, "design d = 1 at 0")
        self.assertEqual(fields, {"promise": "d tells n within 4 on l", "witness": ()})
        # The first one that is not kept counts, whichever item is put first.
        fields = self.refused(NotKept, "design d = 1 at 0\nlist l = (1, 0)")
        self.assertEqual(fields["promise"], "l tells n")
        fields = self.refused(NotKept, "number n = (1, 2)\nnumber q = (7)")
        self.assertEqual(fields, {"promise": "d tells n within 4 on l", "witness": ((10, 1),)})

    def test_no_longer_asked(self):
        self.assertEqual(self.refused(NoName, "number l = (1)"), {"name": "l"})
        self.assertEqual(self.refused(NoName, "list d = (1, 0)"), {"name": "d"})
        self.assertEqual(self.refused(NoName, "design n = 1 at 0\nnumber d = (1)"), {"name": "n"})
        self.assertEqual(self.refused(BadRow, "number n = (1)"), {"row": ((1, 1),)})
        self.assertEqual(self.refused(Unlike, "design d = 1/2 at 0 ; 1/2 at 7"), {"what": "place"})

    def test_what_is_still_kept(self):
        desk = self.desk()
        desk.put("list l = (1, 0) (0, 1) (5, 5)\nnumber m = (0, 3)")
        desk.put("number n = (-1, 1)")
        desk.rename("n", "n2")
        desk.drop("m")
        self.assertEqual(desk.promises(), ("l tells n2", "d tells n2 within 4 on l"))
        self.assertEqual(fields_of(self, NotKept, desk.keep, "d tells n2 within 3 on l")["witness"], ((4, 1),))


class Undoing(unittest.TestCase):
    def test_each_edit(self):
        desk = Desk(TEXT)
        edits = ((desk.put, "number m = (1, 0)"), (desk.keep, "l tells m"), (desk.rename, "m", "k"), (desk.release, "l tells k"),
                 (desk.drop, "k"), (desk.put, ""), (desk.keep, "l tells n"), (desk.keep, "l tells n"))
        states = [state_of(desk)]
        for edit, *arguments in edits:
            self.assertIs(edit(*arguments), None)
            states.append(state_of(desk))
        for _ in range(2):
            for state in states[-2::-1]:
                self.assertIs(desk.undo(), None)
                self.assertEqual(state_of(desk), state)
            self.assertEqual(fields_of(self, NothingToUndo, desk.undo), {})
            for state in states[1:]:
                self.assertIs(desk.redo(), None)
                self.assertEqual(state_of(desk), state)
            self.assertEqual(fields_of(self, NothingToRedo, desk.redo), {})

    def test_an_edit_ends_what_can_be_done_again(self):
        for edit in (lambda desk: desk.put(""), lambda desk: desk.put("list q = (1)"), lambda desk: desk.keep("l tells n"),
                     lambda desk: desk.rename("n", "k"), lambda desk: desk.drop("n"), lambda desk: desk.attempt(lambda tried: None)):
            desk = Desk(TEXT)
            desk.put("number m = (1)")
            desk.undo()
            edit(desk)
            self.assertEqual(fields_of(self, NothingToRedo, desk.redo), {})
            desk.undo()
            self.assertEqual(state_of(desk), (TEXT, ("l", "d", "n"), ()))
            self.assertEqual(fields_of(self, NothingToUndo, desk.undo), {})

    def test_what_fails_is_no_edit(self):
        desk = Desk(TEXT)
        desk.put("number m = (1)")
        desk.undo()
        for call, *arguments in ((desk.put, "list"), (desk.drop, "q"), (desk.rename, "l", "d"), (desk.keep, "l tells q"), (desk.release, "q"),
                                 (desk.keep, "d tells n within 1 on l")):
            with self.assertRaises(LookError):
                call(*arguments)
        with self.assertRaises(Boom):
            desk.attempt(self.boom)
        desk.trial(lambda tried: tried.put("number k = (1)"))
        desk.redo()
        self.assertEqual(desk.names(), ("l", "d", "n", "m"))

    def boom(self, tried):
        tried.put("number k = (1)")
        raise Boom()

    def test_a_new_desk_has_nothing_to_undo(self):
        for desk in (Desk(), Desk(TEXT)):
            self.assertEqual(fields_of(self, NothingToUndo, desk.undo), {})
            self.assertEqual(fields_of(self, NothingToRedo, desk.redo), {})


class Attempts(unittest.TestCase):
    def test_one_edit(self):
        desk = Desk(TEXT)
        token = object()

        def action(tried):
            self.assertIs(tried, desk)
            tried.put("number m = (1, 0)")
            tried.keep("l tells m")
            tried.drop("n")
            return token

        self.assertIs(desk.attempt(action), token)
        after = state_of(desk)
        self.assertEqual(after[1:], (("l", "d", "m"), ("l tells m",)))
        desk.undo()
        self.assertEqual(state_of(desk), (TEXT, ("l", "d", "n"), ()))
        desk.redo()
        self.assertEqual(state_of(desk), after)

    def test_promises_are_looked_at_in_the_end(self):
        desk = Desk(TEXT)
        desk.keep("l tells n")

        def action(tried):
            tried.put("list l = (1, 0)")
            self.assertEqual([promise for promise, _ in tried.broken()], ["l tells n"])
            self.assertIs(type(tried.broken()[0][1]), Hidden)
            self.assertIs(tried.kept("l tells n")[0], False)
            tried.put("list l = (1, 0) (1, 2)")
            self.assertEqual(tried.broken(), ())

        self.assertIs(desk.attempt(action), None)
        self.assertEqual(desk.get("l").rows[1], ((1, 1), (2, 1)))
        before = state_of(desk)
        fields = fields_of(self, NotKept, desk.attempt, lambda tried: tried.put("list l = (1, 0)"))
        self.assertEqual((fields["promise"], type(fields["witness"])), ("l tells n", Hidden))
        self.assertEqual(state_of(desk), before)
        fields = fields_of(self, NoName, desk.attempt, lambda tried: tried.put("design l = 1 at 0"))
        self.assertEqual((fields, state_of(desk)), ({"name": "l"}, before))
        # A promise that is not kept may be made within, but must be kept in the end.
        fields = fields_of(self, NotKept, desk.attempt, lambda tried: tried.keep("d tells n within 1/9 on l"))
        self.assertEqual((fields["promise"], state_of(desk)), ("d tells n within 1/9 on l", before))
        desk.attempt(lambda tried: (tried.keep("d tells n within 1/9 on l"), tried.put("number n = (0, 1/9)")))
        self.assertEqual(desk.promises(), ("l tells n", "d tells n within 1/9 on l"))

    def test_broken_tells_errors(self):
        desk = Desk(TEXT)
        desk.keep("l tells n")

        def action(tried):
            tried.put("number l = (1)")
            tried.broken()

        self.assertEqual(fields_of(self, NoName, desk.attempt, action), {"name": "l"})
        self.assertEqual(desk.broken(), ())

    def test_errors_of_whatever_kind(self):
        class Other(BaseException):
            pass

        for error in (Boom, Other, KeyError, ValueError, NothingToUndo, ZeroDivisionError, KeyboardInterrupt, StopIteration):
            desk = Desk(TEXT)
            desk.put("number m = (1)")
            desk.put("number k = (1)")
            desk.undo()
            before = state_of(desk)
            made = error()

            def action(tried):
                tried.put("list l = (9)")
                tried.undo()
                tried.drop("d")
                raise made

            for call in (desk.attempt, desk.trial):
                with self.assertRaises(error) as caught:
                    call(action)
                self.assertIs(caught.exception, made)
                self.assertEqual(state_of(desk), before)
            with self.assertRaises(error):
                with desk as tried:
                    action(tried)
            self.assertEqual(state_of(desk), before)
            desk.redo()
            self.assertEqual(desk.names(), ("l", "d", "n", "m", "k"))
            desk.undo()
            desk.undo()
            self.assertEqual(state_of(desk)[0], TEXT)

    def test_undo_knows_its_own_edits(self):
        desk = Desk(TEXT)
        desk.put("number m = (1)")
        desk.put("number k = (1)")
        desk.undo()

        def action(tried):
            self.assertEqual(fields_of(self, NothingToUndo, tried.undo), {})
            self.assertEqual(fields_of(self, NothingToRedo, tried.redo), {})
            tried.put("number one = (1)")
            tried.put("number two = (1)")
            tried.undo()
            self.assertEqual(tried.names(), names + ("one",))
            tried.undo()
            self.assertEqual(fields_of(self, NothingToUndo, tried.undo), {})
            tried.redo()

        names = desk.names()
        desk.trial(action)
        self.assertEqual(desk.names(), ("l", "d", "n", "m"))
        desk.redo()
        names = desk.names()
        self.assertEqual(names, ("l", "d", "n", "m", "k"))
        desk.attempt(action)
        self.assertEqual(desk.names(), ("l", "d", "n", "m", "k", "one"))
        desk.undo()
        self.assertEqual(desk.names(), ("l", "d", "n", "m", "k"))
        desk.undo()
        self.assertEqual(desk.names(), ("l", "d", "n", "m"))

    def test_within_one_another(self):
        desk = Desk(TEXT)
        desk.keep("l tells n")

        def inner(tried):
            tried.put("list l = (1, 0)\nnumber m = (1)")
            return tried.names()

        def outer(tried):
            self.assertEqual(tried.attempt(inner), ("l", "d", "n", "m"))
            # An attempt within one is not held to promises; it is one edit here.
            self.assertEqual(len(tried.broken()), 1)
            tried.undo()
            self.assertEqual((tried.names(), tried.broken()), (("l", "d", "n"), ()))
            tried.redo()
            with self.assertRaises(Boom):
                tried.attempt(boom)
            self.assertEqual(tried.names(), ("l", "d", "n", "m"))
            tried.trial(lambda again: again.drop("m"))
            self.assertEqual(tried.names(), ("l", "d", "n", "m"))
            tried.put("list l = (0, 1) (1, 0)")
            return "done"

        def boom(tried):
            tried.drop("l")
            raise Boom()

        self.assertEqual(desk.attempt(outer), "done")
        self.assertEqual((desk.names(), desk.promises()), (("l", "d", "n", "m"), ("l tells n",)))
        desk.undo()
        self.assertEqual(desk.lines(), TEXT)
        desk.undo()
        self.assertEqual(desk.promises(), ())
        self.assertEqual(fields_of(self, NothingToUndo, desk.undo), {})


class Trials(unittest.TestCase):
    def test_with(self):
        desk = Desk(TEXT)
        desk.keep("l tells n")
        before = state_of(desk)
        with desk as tried:
            self.assertIs(tried, desk)
            tried.put("list l = (1, 0)\nnumber m = (2)")
            self.assertEqual(tried.names(), ("l", "d", "n", "m"))
            self.assertEqual([promise for promise, _ in tried.broken()], ["l tells n"])
            with tried as again:
                again.drop("l")
                self.assertEqual(again.promises(), ())
                self.assertEqual(fields_of(self, NoName, again.get, "l"), {"name": "l"})
            self.assertEqual(tried.promises(), ("l tells n",))
            # Attempts within a trial are not held to promises.
            self.assertEqual(tried.attempt(lambda again: again.put("design d = 1 at 0")), None)
            tried.undo()
            self.assertEqual(tried.get("d"), Design((0, 1), ((1, 2), (1, 2))))
        self.assertEqual(state_of(desk), before)
        # Outside again, promises are looked at.
        self.assertEqual(fields_of(self, NotKept, desk.put, "list l = (1, 0)")["promise"], "l tells n")

    def test_what_it_returns(self):
        desk = Desk(TEXT)
        token = object()
        self.assertIs(desk.trial(lambda tried: token), token)
        self.assertEqual(desk.trial(lambda tried: (tried.put("list q = (1)"), tried.names())[1]), ("l", "d", "n", "q"))
        self.assertEqual(desk.names(), ("l", "d", "n"))
        self.assertEqual(desk.trial(lambda tried: tried.attempt(lambda again: 7)), 7)

    def test_all_that_could_be_undone(self):
        desk = Desk(TEXT)
        for k in range(4):
            desk.put(f"number m{k} = (1)")
        desk.undo()
        desk.undo()
        for trial in (lambda: desk.trial(lambda tried: tried.drop("l")), lambda: self.with_edits(desk)):
            trial()
            self.assertEqual(desk.names(), ("l", "d", "n", "m0", "m1"))
            desk.redo()
            desk.redo()
            self.assertEqual(desk.names(), ("l", "d", "n", "m0", "m1", "m2", "m3"))
            self.assertEqual(fields_of(self, NothingToRedo, desk.redo), {})
            desk.undo()
            desk.undo()
        desk.undo()
        desk.undo()
        self.assertEqual(fields_of(self, NothingToUndo, desk.undo), {})

    def with_edits(self, desk):
        with desk as tried:
            tried.drop("l")
            tried.undo()
            tried.redo()
            tried.put("number q = (1)")


if __name__ == "__main__":
    unittest.main()
