"""Promises [64] to [66], and the limits of the desk: rows of edits against a history of the test's own."""

import unittest

from bestlooks.desk import Desk
from bestlooks.errors import LookError, NoName, NotKept, NothingToRedo, NothingToUndo, TakenName
from tests.judging import Numbers

# Right lines, as the desk writes them: kinds may change their names.
BODIES = ("list {} = (1, 0) (0, 1)", "list {} = (1, 0) (0, 1) (1, 1)", "list {} = (1, 0) (2, 0)", "list {} = (1) (1/2)",
          "curve {} from -1 to 1 = 1 ; x", "curve {} from 0 to 2 = x ; x - x^2", "design {} = 1/2 at 0 ; 1/2 at 1", "design {} = 1 at 0",
          "design {} = 1/4 at 0 ; 3/4 at 1", "number {} = (1, 1)", "number {} = (1, 0)", "number {} = (0, 1/3)", "number {} = (1)")
NAMES = ("a", "b", "c", "d", "e")
FORMS = ("{} tells {}", "{} tells {}  within 4 on {}", " {} caps 4 on {}", "no design tells {} below 1 on {}", "{} beats {} on {}")


class Boom(Exception):
    pass


class Refused(Exception):
    """What the model expects of an edit: the error's class, and the promise, if it tells one."""

    def __init__(self, error, promise=None):
        self.error = error
        self.promise = promise


class Model:
    """A desk of the test's own: lines by names, promises, states to go back and forward to."""

    def __init__(self):
        self.items = {}
        self.promises = []
        self.past = []
        self.future = []
        self.depth = 0

    def state(self):
        return dict(self.items), list(self.promises)

    def lines(self):
        return "".join(line + "\n" for line in self.items.values())

    def parts(self, promise):
        return promise.split()

    def names_in(self, promise):
        words = self.parts(promise)
        if words[0] == "no":
            return [words[3], words[7]]
        return [words[0]] + [word for before, word in zip(words, words[1:]) if before in ("tells", "beats", "on")]

    def asked(self, items, promise):
        """What a fresh desk with these items says of a promise."""
        fresh = Desk("".join(line + "\n" for line in items.values()))
        return fresh.kept(promise)

    def check(self, items, promises):
        for promise in promises:
            try:
                holds, _ = self.asked(items, promise)
            except LookError as error:
                raise Refused(type(error)) from None
            if not holds:
                raise Refused(NotKept, promise)

    def edit(self, items, promises):
        if self.depth == 0:
            self.check(items, promises)
        self.past.append(self.state())
        self.future = []
        self.items, self.promises = items, promises

    def put(self, lines):
        items = dict(self.items)
        for line in lines:
            items[line.split()[1]] = line
        self.edit(items, self.promises)

    def drop(self, name):
        if name not in self.items:
            raise Refused(NoName)
        items = {key: line for key, line in self.items.items() if key != name}
        self.edit(items, [promise for promise in self.promises if name not in self.names_in(promise)])

    def rename(self, name, new):
        if name not in self.items:
            raise Refused(NoName)
        if new in self.items:
            raise Refused(TakenName)
        items = {}
        for key, line in self.items.items():
            items[new if key == name else key] = line.replace(f" {name} ", f" {new} ", 1) if key == name else line
        promises = []
        for promise in self.promises:
            words = promise.split(" ")
            promises.append(" ".join(new if word == name else word for word in words))
        self.edit(items, promises)

    def keep(self, promise):
        try:
            self.asked(self.items, promise)
        except LookError as error:
            raise Refused(type(error)) from None
        self.edit(dict(self.items), self.promises if promise in self.promises else self.promises + [promise])

    def release(self, promise):
        if promise not in self.promises:
            raise Refused(NoName)
        self.edit(dict(self.items), [made for made in self.promises if made != promise])

    def undo(self):
        if not self.past:
            raise Refused(NothingToUndo)
        self.future.append(self.state())
        self.items, self.promises = self.past.pop()

    def redo(self):
        if not self.future:
            raise Refused(NothingToRedo)
        self.past.append(self.state())
        self.items, self.promises = self.future.pop()


class Histories(unittest.TestCase):
    def same(self, desk, model):
        self.assertEqual(desk.lines(), model.lines())
        self.assertEqual(desk.names(), tuple(model.items))
        self.assertEqual(desk.promises(), tuple(model.promises))

    def both(self, desk, model, name, ours, theirs):
        """The same call of both, with the same error or none."""
        try:
            getattr(model, name)(*ours)
            expected = None
        except Refused as refused:
            expected = refused
        try:
            self.assertIs(getattr(desk, name)(*theirs), None)
            found = None
        except LookError as error:
            found = error
        self.assertIs(type(found), type(None) if expected is None else expected.error, (name, ours))
        if expected is not None and expected.promise is not None:
            self.assertEqual(found.promise, expected.promise)
        self.same(desk, model)

    def step(self, desk, model, numbers):
        """One drawn edit, or undo or redo."""
        kind = numbers.below(16)
        name, other = numbers.one_of(NAMES), numbers.one_of(NAMES)
        if kind < 5:
            names = sorted({numbers.one_of(NAMES) for _ in range(numbers.between(1, 3))})
            lines = [numbers.one_of(BODIES).format(told) for told in names]
            self.both(desk, model, "put", (lines,), ("\n".join(lines),))
        elif kind < 8:
            form = numbers.one_of(FORMS)
            promise = form.format(*[numbers.one_of(NAMES) for _ in range(form.count("{"))])
            self.both(desk, model, "keep", (promise,), (promise,))
        elif kind == 8:
            self.both(desk, model, "drop", (name,), (name,))
        elif kind == 9:
            self.both(desk, model, "rename", (name, other), (name, other))
        elif kind == 10:
            promise = numbers.one_of(model.promises) if model.promises and numbers.below(4) else "a tells b"
            self.both(desk, model, "release", (promise,), (promise,))
        elif kind < 14:
            self.both(desk, model, "undo", (), ())
        else:
            self.both(desk, model, "redo", (), ())

    def play(self, desk, model, numbers, steps):
        for _ in range(steps):
            if model.depth < 3 and numbers.below(8) == 0:
                self.nested(desk, model, numbers)
            else:
                self.step(desk, model, numbers)
            if numbers.below(10) == 0:
                self.questions(desk, model)

    def questions(self, desk, model):
        """What is kept, and what is broken, as fresh desks tell it."""
        expected = []
        for promise in model.promises:
            try:
                holds, witness = model.asked(model.items, promise)
            except LookError as error:
                with self.assertRaises(type(error)):
                    desk.broken()
                with self.assertRaises(type(error)):
                    desk.kept(promise)
                return
            self.assertEqual(desk.kept(promise)[0], holds)
            if not holds:
                expected.append((promise, type(witness)))
        found = desk.broken()
        self.assertIs(type(found), tuple)
        self.assertEqual([(promise, type(witness)) for promise, witness in found], expected)
        if model.depth == 0:
            self.assertEqual(found, ())

    def nested(self, desk, model, numbers):
        """An attempt or a trial, of either form, that ends or raises."""
        is_trial = numbers.below(2) == 0
        raises = numbers.below(4) == 0
        before, past, future = model.state(), model.past, model.future
        token = object()

        def inside(tried):
            self.assertIs(tried, desk)
            self.same(desk, model)
            self.play(desk, model, numbers, numbers.between(0, 6))
            if raises:
                raise Boom()
            return token

        model.past, model.future = [], []
        model.depth += 1
        found = self.outcome(desk, inside, is_trial, numbers.below(2) == 0)
        model.depth -= 1
        model.past, model.future = past, future
        expected = Boom if raises else None
        if not raises and not is_trial and model.depth == 0:
            try:
                model.check(model.items, model.promises)
            except Refused as refused:
                expected = refused.error
        self.assertIs(found if expected is not None else None, expected)
        if expected is None:
            self.assertIs(found, token)
        if is_trial or expected is not None:
            model.items, model.promises = before
        else:
            model.past.append(before)
            model.future = []
        self.same(desk, model)

    def outcome(self, desk, inside, is_trial, by_with):
        """What the call returns, or the class of the error."""
        try:
            if not is_trial:
                return desk.attempt(inside)
            if not by_with:
                return desk.trial(inside)
            with desk as tried:
                return inside(tried)
        except (LookError, Boom) as error:
            return type(error)

    def test_drawn(self):
        for seed in range(40):
            numbers = Numbers(370 + seed)
            self.play(Desk(), Model(), numbers, 60)

    def test_edits_with_promises(self):
        # Desks that begin with promises, so that many edits are refused.
        for seed in range(30):
            numbers = Numbers(420 + seed)
            desk, model = Desk(), Model()
            lines = [BODIES[1].format("a"), BODIES[6].format("b"), BODIES[9].format("c"), BODIES[8].format("d"), BODIES[4].format("e")]
            self.both(desk, model, "put", (lines,), ("\n".join(lines),))
            for promise in ("a tells c", "b tells c  within 4 on a", " b caps 4 on a", "no design tells c below 1 on a", "d beats d on a"):
                self.both(desk, model, "keep", (promise,), (promise,))
            self.assertTrue(len(model.promises) >= 4)
            self.play(desk, model, numbers, 40)

    def test_limits(self):
        numbers = Numbers(380)
        desk, model = Desk(), Model()
        long = ("9" * 30, "7" * 30)
        lines = [f"list l{k} = " + " ".join(f"({numbers.between(-9, 9)}/7, {long[0]}/{numbers.between(1, 9)}, {k + 1})" for _ in range(20)) for k in range(3)]
        desk.put("\n".join(lines))
        desk.put("curve c from -20 to 20 = 1 ; x ; x^2 ; x^3")
        desk.put("design d = " + " ; ".join(f"1/20 at {k}" for k in range(20)))
        desk.put("design e = 1/4 at -20 ; 1/4 at -10 ; 1/4 at 10 ; 1/4 at 20")
        desk.put(f"number n = (1/{long[1]}, {long[0]}, 3)\nnumber m = (1, 2, 3, {long[0]}/{long[1]})")
        desk.put("number o = (0, 0, 1)\nnumber p = (1, 25, 625, 15625)\nlist q = (1)\nlist r = (2)")
        self.assertEqual(len(desk.names()), 12)
        promises = ["l0 tells n", "l1 tells o", "c tells m", "c tells p", "d beats d on l0", "e beats e on c", "no design tells p below 1 on c",
                    "no design tells n below 0 on l2", "e tells p within 1000000 on c", "no design tells m below -1 on c"]
        for promise in promises:
            desk.keep(promise)
        self.assertEqual((desk.promises(), desk.broken()), (tuple(promises), ()))
        for k in range(12):
            desk.rename(desk.names()[k], f"new{k}")
        self.assertEqual((len(desk.promises()), desk.broken()), (10, ()))
        for _ in range(12):
            desk.undo()
        self.assertEqual(desk.promises(), tuple(promises))
        self.assertEqual(Desk(desk.lines()).lines(), desk.lines())
        self.assertEqual(model.lines(), "")


if __name__ == "__main__":
    unittest.main()
