"""A desk for looks, designs, numbers and promises."""

from bestlooks.errors import BadName, BadText, NoName, NotKept, NothingToRedo, NothingToUndo, TakenName
from bestlooks.promises import is_kept, names_in, renamed
from bestlooks.readers import Reader
from bestlooks.texts import item_line, read_items


class State:
    """All that a desk keeps, to go back to it. None of it is ever changed: a desk puts other things in its place."""

    def __init__(self, items_kept, promises_made, past, future, depth, outer):
        self.items_kept = items_kept
        self.promises_made = promises_made
        self.past = past
        self.future = future
        self.depth = depth
        self.outer = outer


class Desk:
    """Items under names, promises about them, and what was done."""

    def __init__(self, text=""):
        self._items = {name: item for name, item in read_items(text)}
        self._promises = ()
        # Pairs of items and promises to go back to, and to go forward to, the next one being the last one.
        self._past = ()
        self._future = ()
        # How many attempts and trials there are about all that is done now.
        self._depth = 0
        self._outer = None

    def __enter__(self):
        """Begins a trial."""
        self._outer = self._state()
        self._begin()
        return self

    # Ends a trial: all is as it was.
    def __exit__(self, kind, value, trace):
        self._items = self._outer.items_kept
        self._promises = self._outer.promises_made
        self._past = self._outer.past
        self._future = self._outer.future
        self._depth = self._outer.depth
        self._outer = self._outer.outer

    def _state(self):
        """All that is kept now."""
        return State(self._items, self._promises, self._past, self._future, self._depth, self._outer)

    def _begin(self):
        """Begins an attempt or a trial, which knows its own edits alone."""
        self._past = ()
        self._future = ()
        self._depth += 1

    def _edit(self, items, promises):
        """Makes an edit behind which no promise holds less than ahead of it."""
        self._past = self._past + ((self._items, self._promises),)
        self._future = ()
        self._items = items
        self._promises = promises

    def put(self, text):
        """Puts the items of a text in their places."""
        items = {**self._items}
        for name, item in read_items(text):
            items[name] = item
        if self._depth == 0:
            _check(self._items, self._promises, items, self._promises)
        self._edit(items, self._promises)

    def drop(self, name):
        """Takes an item away, and all promises with its name."""
        self._check_name(name)
        items = {key: item for key, item in self._items.items() if key != name}
        self._edit(items, tuple([promise for promise in self._promises if name not in names_in(promise)]))

    def rename(self, name, new):
        """Calls an item anew, in promises too."""
        if not _is_name(new):
            raise BadName(new)
        self._check_name(name)
        if new in self._items:
            raise TakenName(new)
        items = {new if key == name else key: item for key, item in self._items.items()}
        self._edit(items, tuple([renamed(promise, name, new) for promise in self._promises]))

    def keep(self, promise):
        """Makes a promise."""
        holds, witness = is_kept(promise, self._items)
        if self._depth == 0 and not holds:
            raise NotKept(promise, witness)
        self._edit(self._items, self._promises if promise in self._promises else self._promises + (promise,))

    def release(self, promise):
        """Takes a promise back."""
        if not isinstance(promise, str) or promise not in self._promises:
            raise NoName(promise)
        self._edit(self._items, tuple([made for made in self._promises if made != promise]))

    def attempt(self, action):
        """Calls a function with the desk: what it does is one edit, or is not done at all."""
        before = self._state()
        done = None
        self._begin()
        try:
            result = action(self)
            if before.depth == 0:
                _check(before.items_kept, before.promises_made, self._items, self._promises)
            done = True
        finally:
            self._past = before.past
            self._future = before.future
            self._depth = before.depth
            self._outer = before.outer
            if done is None:
                self._items = before.items_kept
                self._promises = before.promises_made
        self._past = self._past + ((before.items_kept, before.promises_made),)
        self._future = ()
        return result

    def trial(self, action):
        """Calls a function with the desk: all is as it was behind it."""
        with self as tried:
            return action(tried)

    def undo(self):
        """Takes the last edit back."""
        if not self._past:
            raise NothingToUndo()
        self._future = self._future + ((self._items, self._promises),)
        self._items, self._promises = self._past[-1]
        self._past = self._past[:-1]

    def redo(self):
        """Does the edit again that was taken back last."""
        if not self._future:
            raise NothingToRedo()
        self._past = self._past + ((self._items, self._promises),)
        self._items, self._promises = self._future[-1]
        self._future = self._future[:-1]

    def lines(self):
        """The text of all items."""
        return "".join([item_line(name, item) + "\n" for name, item in self._items.items()])

    def names(self):
        """The names of all items, in order."""
        return tuple(list(self._items))

    def promises(self):
        """All promises, in the order in which they were made."""
        return self._promises

    def get(self, name):
        """The item with a name."""
        self._check_name(name)
        return self._items[name]

    def kept(self, promise):
        """The pair of whether a promise holds now, and the witness, None if it does."""
        return is_kept(promise, self._items)

    def broken(self):
        """The pairs of a promise and its witness, of all that do not hold now."""
        found = [(promise, is_kept(promise, self._items)) for promise in self._promises]
        return tuple([(promise, witness) for promise, (holds, witness) in found if not holds])

    def _check_name(self, name):
        """NoName(name) for what is no name of an item."""
        if not isinstance(name, str) or name not in self._items:
            raise NoName(name)


def _is_name(value):
    """Whether any value is a name."""
    if not isinstance(value, str):
        return False
    reader = Reader(value)
    try:
        reader.read_name()
    except BadText:
        return False
    return reader.is_at_end()


def _check(items, promises, new_items, new_promises):
    """The errors of new promises about new items, all promises about the old ones being kept."""
    for promise in new_promises:
        named = names_in(promise)
        # What stood before, about items that are the same, stands still.
        if promise not in promises or any([items.get(name) != new_items.get(name) for name in named]):
            holds, witness = is_kept(promise, new_items)
            if not holds:
                raise NotKept(promise, witness)
