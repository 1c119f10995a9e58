"""Sheets: a strip that is folded in halves, deed by deed."""

from foldworld.errors import InvalidWays, NothingToUndo, Refused, TooMany
from foldworld.halves import mark_by, shift_of
from foldworld.limits import MOST_WAYS
from foldworld.shapes import is_text, need_number, need_place


class Sheet:
    """The ways in which a strip is folded, and what they were ahead of each deed."""

    def __init__(self, number):
        need_number(number, 1, MOST_WAYS)
        self.number = number
        self.ways = ""
        self.changes = 0
        self._past = ()

    def fold(self, way):
        """Fold once more."""
        if not is_text(way, "ou", 1, 1):
            raise InvalidWays(way)
        if len(self.ways) == self.number:
            raise TooMany(self.number)
        self._change_to(self.ways + way)

    def unfold(self):
        """Open the last fold."""
        if self.ways == "":
            raise Refused(self.ways)
        self._change_to(self.ways[:-1])

    def turn_over(self):
        """Make each way done the other one."""
        self._change_to("".join(["u" if way == "o" else "o" for way in self.ways]))

    def undo(self):
        """Take back the last deed."""
        if not self._past:
            raise NothingToUndo()
        self.ways = self._past[-1]
        self._past = self._past[:-1]
        self.changes = len(self._past)

    def mark(self, place):
        """Tell the mark of a place, `?` if it comes of a fold that is not yet done."""
        need_place(self.number, place)
        index = self.number - 1 - shift_of(place)
        return mark_by(self.ways[index], place) if index < len(self.ways) else "?"

    def trial(self):
        """Tell an object for `with`, behind the rows of which the sheet is as it was before."""
        return SheetTrial(self)

    def tried(self, act):
        """Tell what act(sheet) returns, within a trial."""
        with self.trial() as sheet:
            return act(sheet)

    def _change_to(self, ways):
        """Do a deed that leads to these ways."""
        self._past = self._past + (self.ways,)
        self.changes = len(self._past)
        self.ways = ways


class SheetTrial:
    """A trial of a sheet, which may be entered again, also within itself."""

    def __init__(self, sheet):
        self._sheet = sheet
        self._held = None

    def __enter__(self):
        sheet = self._sheet
        self._held = HeldSheet(sheet, self._held)
        return sheet

    def __exit__(self, kind, value, trace):
        sheet = self._sheet
        held = self._held
        sheet.ways = held.ways
        sheet.changes = held.changes
        sheet._past = held.past
        self._held = held.outer


class HeldSheet:
    """What a sheet was when a trial was entered, and what the entry around this one holds."""

    def __init__(self, sheet, outer):
        self.ways = sheet.ways
        self.changes = sheet.changes
        self.past = sheet._past
        self.outer = outer
