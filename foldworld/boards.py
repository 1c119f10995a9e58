"""Boards: two arch rows that are led deed by deed."""

from foldworld.errors import Busy, InvalidDeeds, NothingToUndo, Refused
from foldworld.rows import exchange_in, mates_of, turned
from foldworld.shapes import is_within, need_rows


class Board:
    """Two arch rows, the deeds that led to them, and what they were ahead of each deed."""

    def __init__(self, upper, lower):
        need_rows(upper, lower)
        if upper == "":
            raise Refused(lower)
        self.upper = upper
        self.lower = lower
        self.log = ()
        self.busy = False
        self._past = ()

    def __len__(self):
        return len(self.log)

    def do(self, deed):
        """Do a deed."""
        self._need_idle()
        self._do_at(deed, 0)

    def do_all(self, deeds, *, watch=None):
        """Do all deeds or none, with a look of `watch` at the board behind each of them."""
        self._need_idle()
        if type(deeds) is not tuple:
            raise InvalidDeeds(None)
        upper, lower, log, past = self.upper, self.lower, self.log, self._past
        done = None
        self.busy = True
        try:
            for index, deed in enumerate(deeds):
                self._do_at(deed, index)
                if watch is not None:
                    watch(self, index)
            done = True
        finally:
            self.busy = False
            if done is None:
                self.upper, self.lower, self.log, self._past = upper, lower, log, past

    def undo(self):
        """Take back the last deed."""
        self._need_idle()
        if not self._past:
            raise NothingToUndo()
        self.upper, self.lower = self._past[-1]
        self.log = self.log[:-1]
        self._past = self._past[:-1]

    def trial(self):
        """Tell an object for `with`, behind the rows of which the board is as it was before."""
        self._need_idle()
        return BoardTrial(self)

    def _need_idle(self):
        """Raise Busy if do_all is at work."""
        if self.busy:
            raise Busy()

    def _do_at(self, deed, index):
        """Do a deed, which has this index if it is none."""
        if not _is_deed(deed, len(self.upper)):
            raise InvalidDeeds(index)
        before = (self.upper, self.lower)
        if deed[0] == "turn":
            self.upper = turned(self.upper)
            self.lower = turned(self.lower)
        elif deed[0] == "up":
            self.upper = _exchanged_by(deed, self.upper)
        else:
            self.lower = _exchanged_by(deed, self.lower)
        self.log = self.log + (deed,)
        self._past = self._past + (before,)


class BoardTrial:
    """A trial of a board, which may be entered again, also within itself."""

    def __init__(self, board):
        self._board = board
        self._held = None

    def __enter__(self):
        board = self._board
        self._held = HeldBoard(board, self._held)
        return board

    def __exit__(self, kind, value, trace):
        board = self._board
        held = self._held
        board.upper = held.upper
        board.lower = held.lower
        board.log = held.log
        board._past = held.past
        self._held = held.outer


class HeldBoard:
    """What a board was when a trial was entered, and what the entry around this one holds."""

    def __init__(self, board, outer):
        self.upper = board.upper
        self.lower = board.lower
        self.log = board.log
        self.past = board._past
        self.outer = outer


def attempt(board, act):
    """Tell what act(board) returns, within a trial."""
    with board.trial() as led:
        return act(led)


def _is_deed(value, feet):
    """Whether a value is a deed for rows with so many feet."""
    if type(value) is not tuple or len(value) not in (1, 3) or type(value[0]) is not str:
        return False
    if len(value) == 1:
        return value[0] == "turn"
    return (
        value[0] in ("up", "low")
        and is_within(value[1], 0, feet - 1)
        and is_within(value[2], 0, feet - 1)
    )


def _exchanged_by(deed, row):
    """Tell the row with the arches of the feet of a deed exchanged; Refused is raised if they cannot be."""
    _, foot, other_foot = deed
    found = exchange_in(mates_of(row), foot, other_foot)
    if found is None:
        raise Refused(deed)
    return found
