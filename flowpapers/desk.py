"""A desk for fields, rooms and planes, and for promises about them."""

from flowpapers.errors import (
    BadName, NoName, NothingToRedo, NothingToUndo, NotKept, TakenName,
)
from flowpapers.items import items_of, line_of
from flowpapers.promises import asked, named_anew, names_in
from flowpapers.words import is_name


class Level:
    """What stands on a desk, and what came ahead of it and may come again, within one attempt or trial.

    entries are pairs (name, item), texts the promises; past and future are tuples of such pairs, the nearest ones
    last and first. outer is the Level around the attempt or trial, None outside of all.
    """

    def __init__(self, entries, texts, past, future, outer):
        self.entries = entries
        self.texts = texts
        self.past = past
        self.future = future
        self.outer = outer


class Desk:
    """Items under names, and promises about them that are kept behind each edit."""

    def __init__(self, text=""):
        self._level = Level(items_of(text), (), (), (), None)

    def put(self, text):
        """Puts the items of a text in the place of those with their names, or behind all; BadLine(line, column)."""
        fresh = items_of(text)
        replaced = [_newest(entry, fresh) for entry in self._level.entries]
        ahead = self.names()
        added = [entry for entry in fresh if entry[0] not in ahead]
        self._edit(tuple(replaced + added), self._level.texts)

    def drop(self, name):
        """Drops an item and releases the promises that name it; NoName(name)."""
        self.get(name)
        entries = [entry for entry in self._level.entries if entry[0] != name]
        texts = [text for text in self._level.texts if name not in names_in(text)]
        self._edit(tuple(entries), tuple(texts))

    def rename(self, name, new):
        """Gives an item a new name, in promises too; BadName(new), NoName(name), TakenName(new)."""
        if not is_name(new):
            raise BadName(new)
        self.get(name)
        if new in self.names():
            raise TakenName(new)
        entries = [(new if other == name else other, item) for other, item in self._level.entries]
        texts = [named_anew(text, name, new) for text in self._level.texts]
        self._edit(tuple(entries), tuple(texts))

    def keep(self, promise):
        """Makes a promise, if it is not made already; its errors at once."""
        self.kept(promise)
        texts = self._level.texts
        self._edit(self._level.entries, texts if promise in texts else texts + (promise,))

    def release(self, promise):
        """Takes a promise back; NoName(promise) for any value that is no promise made."""
        if not isinstance(promise, str) or promise not in self._level.texts:
            raise NoName(promise)
        self._edit(self._level.entries, tuple([text for text in self._level.texts if text != promise]))

    def attempt(self, action):
        """What a function returns that is called with the desk; what it does is one edit, or nothing if it fails."""
        ahead = self._level
        is_done = None
        self._level = Level(ahead.entries, ahead.texts, (), (), ahead)
        try:
            told = action(self)
            entries, texts = self._level.entries, self._level.texts
            self._level = ahead
            self._edit(entries, texts)
            is_done = True
        finally:
            if is_done is None:
                self._level = ahead
        return told

    def trial(self, action):
        """What a function returns that is called with the desk; all that it does is taken back."""
        with self as tried:
            return action(tried)

    def __enter__(self):
        level = self._level
        self._level = Level(level.entries, level.texts, (), (), level)
        return self

    def __exit__(self, kind, value, trace):
        self._level = self._level.outer

    def undo(self):
        """Takes back the last edit that stands; NothingToUndo()."""
        level = self._level
        if not level.past:
            raise NothingToUndo()
        entries, texts = level.past[-1]
        future = ((level.entries, level.texts),) + level.future
        self._level = Level(entries, texts, level.past[:-1], future, level.outer)

    def redo(self):
        """Does the edit again that was taken back last; NothingToRedo()."""
        level = self._level
        if not level.future:
            raise NothingToRedo()
        entries, texts = level.future[0]
        past = level.past + ((level.entries, level.texts),)
        self._level = Level(entries, texts, past, level.future[1:], level.outer)

    def lines(self):
        """The text of all items, a line for each."""
        return "".join([line_of(name, item) + "\n" for name, item in self._level.entries])

    def names(self):
        """The names of all items, in order."""
        return tuple([name for name, _ in self._level.entries])

    def promises(self):
        """The promises, in order."""
        return self._level.texts

    def get(self, name):
        """The item with a name; NoName(name) for any value that is no name of one."""
        if isinstance(name, str):
            for other, item in self._level.entries:
                if other == name:
                    return item
        raise NoName(name)

    def kept(self, promise):
        """Whether any promise is kept now, and the witness, None if it is."""
        return asked(promise, self._level.entries)

    def broken(self):
        """The pairs (promise, witness) of all promises that are not kept, in order."""
        found = []
        for text in self._level.texts:
            is_kept_now, witness = self.kept(text)
            if not is_kept_now:
                found.append((text, witness))
        return tuple(found)

    def _edit(self, entries, texts):
        """Makes an edit; outside of attempts and trials only if all promises are kept behind it."""
        level = self._level
        if level.outer is None:
            for text in texts:
                is_kept_now, witness = asked(text, entries)
                if not is_kept_now:
                    raise NotKept(text, witness)
        self._level = Level(entries, texts, level.past + ((level.entries, level.texts),), (), level.outer)


def _newest(entry, fresh):
    """The fresh one of the pairs (name, item) with the name of an entry, the entry itself if there is none."""
    for other in fresh:
        if other[0] == entry[0]:
            return other
    return entry
