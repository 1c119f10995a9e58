"""Shelves: arch rows under names, and wishes that hold behind each change."""

from foldworld.errors import (
    Broken, InUse, InvalidIndex, InvalidName, InvalidWish, NothingToUndo, UnknownName)
from foldworld.rows import turned
from foldworld.shapes import is_name, is_within, need_row
from foldworld.wishes import does_hold, is_wish, names_in


class Shelf:
    """Rows under names, wishes about them, and what is to be put back for each deed."""

    def __init__(self):
        self.names = ()
        self.wishes = ()
        self.changes = 0
        self._rows = {}
        self._past = ()

    def __setitem__(self, name, row):
        if not is_name(name):
            raise InvalidName(name)
        need_row(row)
        self._put(name, row)

    def __getitem__(self, name):
        self._need_known(name)
        return self._rows[name]

    def __contains__(self, value):
        return is_name(value) and value in self._rows

    def __iter__(self):
        raise TypeError("the names of a shelf are told by its attribute")

    def __len__(self):
        return len(self._rows)

    def drop(self, name):
        """Take a name away."""
        self._need_known(name)
        for index, wish in enumerate(self.wishes):
            if name in names_in(wish):
                raise InUse(index)
        self._note(name)
        self._store(name, None)

    def wish(self, wish):
        """Take a wish."""
        if not is_wish(wish):
            raise InvalidWish(wish)
        if not does_hold(wish, self._rows):
            raise Broken(len(self.wishes))
        self._note(None)
        self.wishes = self.wishes + (wish,)

    def lift(self, index):
        """Take a wish away."""
        if not is_within(index, 0, len(self.wishes) - 1):
            raise InvalidIndex(index)
        self._note(None)
        self.wishes = self.wishes[:index] + self.wishes[index + 1:]

    def turn(self, name):
        """Turn the row under a name."""
        self._need_known(name)
        self._put(name, turned(self._rows[name]))

    def undo(self):
        """Take back the last deed."""
        if not self._past:
            raise NothingToUndo()
        name, row, wishes = self._past[-1]
        if name is not None:
            self._store(name, row)
        self.wishes = wishes
        self._past = self._past[:-1]
        self.changes = len(self._past)

    def trial(self):
        """Tell an object for `with`, behind the rows of which the shelf is as it was before."""
        return ShelfTrial(self)

    def tried(self, act):
        """Tell what act(shelf) returns, within a trial."""
        with self.trial() as shelf:
            return act(shelf)

    def _need_known(self, name):
        """Raise UnknownName unless this is a name of the shelf."""
        if name not in self:
            raise UnknownName(name)

    def _put(self, name, row):
        """Do the deed of putting a row under a name; Broken is raised if a wish would not hold."""
        rows = dict(self._rows)
        rows[name] = row
        for index, wish in enumerate(self.wishes):
            if name in names_in(wish) and not does_hold(wish, rows):
                raise Broken(index)
        self._note(name)
        self._store(name, row)

    def _note(self, name):
        """Keep what undo is to put back behind a deed: the row under a name, if one is told."""
        self._past = self._past + ((name, self._rows.get(name), self.wishes),)
        self.changes = len(self._past)

    def _store(self, name, row):
        """Put a row under a name, or take the name away for None."""
        # Trials hold the rows as they were, so that a new dict comes in their place.
        rows = dict(self._rows)
        if row is None:
            del rows[name]
        else:
            rows[name] = row
        self._rows = rows
        self.names = tuple(sorted(rows))


class ShelfTrial:
    """A trial of a shelf, which may be entered again, also within itself."""

    def __init__(self, shelf):
        self._shelf = shelf
        self._held = None

    def __enter__(self):
        shelf = self._shelf
        self._held = HeldShelf(shelf, self._held)
        return shelf

    def __exit__(self, kind, value, trace):
        shelf = self._shelf
        held = self._held
        shelf.names = held.names
        shelf.wishes = held.wishes
        shelf.changes = held.changes
        shelf._rows = held.rows
        shelf._past = held.past
        self._held = held.outer


class HeldShelf:
    """What a shelf was when a trial was entered, and what the entry around this one holds."""

    def __init__(self, shelf, outer):
        self.names = shelf.names
        self.wishes = shelf.wishes
        self.changes = shelf.changes
        self.rows = shelf._rows
        self.past = shelf._past
        self.outer = outer
