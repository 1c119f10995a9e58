"""Which values have the shape that is asked for, and the errors for those that have not."""

from math import gcd

from foldworld.errors import (
    InvalidClues, InvalidCourse, InvalidFoot, InvalidFraction, InvalidHooks, InvalidLayers,
    InvalidLengths, InvalidLoop, InvalidMarks, InvalidNumber, InvalidPairs, InvalidPath,
    InvalidPlace, InvalidRow, InvalidShuffle, InvalidSpots, InvalidWays, Unlike)
from foldworld.limits import (
    MOST_ARCHES, MOST_BOTTOM, MOST_CLUES, MOST_DECK, MOST_LENGTH, MOST_LETTERS, MOST_LIST,
    MOST_PIECES, MOST_SPOTS, MOST_WAYS)

_MOST_HOOKS = 60
_MOST_LETTERS_OF_NAMES = 8
_SHUFFLES = ("out", "in", "fold")


def is_within(value, least, most):
    """Whether a value is an integer from least to most."""
    # True and False are of the class bool, so they are no integers here.
    return type(value) is int and least <= value <= most


def is_same(value, wanted):
    """Whether a value is what is wanted, a number, string or tuple of such, also by its kinds."""
    # True equals 1, and other objects may equal what they like.
    if type(value) is not type(wanted):
        return False
    if type(wanted) is tuple:
        if len(value) != len(wanted):
            return False
        return all([is_same(part, other) for part, other in zip(value, wanted)])
    return value == wanted


def is_text(value, signs, least, most):
    """Whether a value is a string of these signs alone, of so many from least to most."""
    return type(value) is str and least <= len(value) <= most and value.strip(signs) == ""


def is_row(value):
    """Whether a value is an arch row."""
    if not is_text(value, "()", 0, 2 * MOST_ARCHES):
        return False
    height = 0
    for sign in value:
        height += 1 if sign == "(" else -1
        if height < 0:
            return False
    return height == 0


def need_number(value, least, most):
    """Raise InvalidNumber unless a value is an integer from least to most."""
    if not is_within(value, least, most):
        raise InvalidNumber(value)


def need_row(value):
    """Raise InvalidRow unless a value is an arch row."""
    if not is_row(value):
        raise InvalidRow(value)


def need_rows(value, other_value):
    """Raise InvalidRow unless both values are arch rows, Unlike unless of as many arches."""
    need_row(value)
    need_row(other_value)
    if len(value) != len(other_value):
        raise Unlike(other_value)


def need_foot(row, value):
    """Raise InvalidFoot unless a value is a foot of the row."""
    if not is_within(value, 0, len(row) - 1):
        raise InvalidFoot(value)


def need_candidate(value):
    """Raise InvalidPath unless a value is a candidate for a path."""
    if not _is_tuple(value, 2, 2 * MOST_ARCHES) or len(value) % 2 == 1:
        raise InvalidPath(None)
    if not is_within(value[0], 0, 0):
        raise InvalidPath(0)
    index = _wrong_in_order(value)
    if index is not None:
        raise InvalidPath(index)


def need_hooks(size, value):
    """Raise InvalidHooks unless a value is a tuple of hooks of tangles of this size."""
    if type(value) is not tuple:
        raise InvalidHooks(None)
    for index, number in enumerate(value):
        if index == _MOST_HOOKS or not is_within(number, 0, size - 2):
            raise InvalidHooks(index)


def need_layers(value):
    """Raise InvalidLayers unless a value is layers."""
    if not _is_tuple(value, 1, MOST_PIECES):
        raise InvalidLayers(None)
    index = _wrong_in_order(value)
    if index is not None:
        raise InvalidLayers(index)


def need_layers_of(number, value):
    """Raise InvalidLayers unless a value is layers of so many pieces."""
    if not _is_tuple(value, number, number):
        raise InvalidLayers(None)
    need_layers(value)


def need_marks(value, least, most):
    """Raise InvalidMarks unless a value is a string of so many marks from least to most."""
    if not is_text(value, "mv", least, most):
        raise InvalidMarks(value)


def need_lengths(value):
    """Raise InvalidLengths unless a value is the lengths of the pieces of a strip."""
    if not _is_tuple(value, 1, MOST_PIECES):
        raise InvalidLengths(None)
    for index, length in enumerate(value):
        if not is_within(length, 1, MOST_LENGTH):
            raise InvalidLengths(index)


def need_ways(value):
    """Raise InvalidWays unless a value is a string of ways."""
    if not is_text(value, "ou", 1, MOST_WAYS):
        raise InvalidWays(value)


def need_place(number, value):
    """Raise InvalidPlace unless a value is a place of a strip of so many folds."""
    if not is_within(value, 1, (1 << number) - 1):
        raise InvalidPlace(value)


def need_course(value):
    """Raise InvalidCourse unless a value is a pair of a lead and a loop."""
    if not _is_tuple(value, 2, 2):
        raise InvalidCourse(value)
    if not is_text(value[0], "lr", 0, MOST_LETTERS) or not is_text(value[1], "lr", 1, MOST_LETTERS):
        raise InvalidCourse(value)


def need_loop(value):
    """Raise InvalidLoop unless a value is a string of letters that can be a loop."""
    if not is_text(value, "lr", 1, MOST_LETTERS):
        raise InvalidLoop(value)


def need_fraction(value):
    """Raise InvalidFraction unless a value is a fraction from 0 to 1 that may be passed."""
    if not _is_tuple(value, 2, 2):
        raise InvalidFraction(value)
    top, bottom = value
    if not is_within(bottom, 1, MOST_BOTTOM) or not is_within(top, 0, bottom) or gcd(top, bottom) > 1:
        raise InvalidFraction(value)


def is_name(value):
    """Whether a value is a name."""
    return is_text(value, "abcdefghijklmnopqrstuvwxyz", 1, _MOST_LETTERS_OF_NAMES)


def is_shuffle(value):
    """Whether a value is one of the words for a shuffle."""
    return type(value) is str and value in _SHUFFLES


def need_shuffle(value):
    """Raise InvalidShuffle unless a value is one of the words for a shuffle."""
    if not is_shuffle(value):
        raise InvalidShuffle(value)


def is_size(value):
    """Whether a value is the size of a deck."""
    return is_within(value, 2, MOST_DECK) and value % 2 == 0


def need_size(value):
    """Raise InvalidNumber unless a value is the size of a deck."""
    if not is_size(value):
        raise InvalidNumber(value)


def need_clues(told, pairs):
    """Raise InvalidClues unless told are signs of creases, InvalidPairs unless pairs go with them."""
    if not is_text(told, "mv?", 0, MOST_LIST - 1):
        raise InvalidClues(told)
    if type(pairs) is not tuple:
        raise InvalidPairs(None)
    for index, pair in enumerate(pairs):
        if index == MOST_CLUES or not _is_pair_of_pieces(pair, len(told)):
            raise InvalidPairs(index)


def need_pieces(last, piece, other_piece):
    """Raise InvalidNumber unless these are unlike pieces, up to the last one."""
    need_number(piece, 0, last)
    need_number(other_piece, 0, last)
    if piece == other_piece:
        raise InvalidNumber(other_piece)


def need_spots(number, value):
    """Raise InvalidSpots unless a value is a tuple of spots of a strip of so many folds."""
    if type(value) is not tuple:
        raise InvalidSpots(None)
    for index, spot in enumerate(value):
        if index == MOST_SPOTS or not _is_spot(spot, (1 << number) - 1):
            raise InvalidSpots(index)


def _is_pair_of_pieces(value, last):
    """Whether a value is a pair of unlike pieces, up to the last one."""
    if not _is_tuple(value, 2, 2):
        return False
    return is_within(value[0], 0, last) and is_within(value[1], 0, last) and value[0] != value[1]


def _is_spot(value, last):
    """Whether a value is a pair of a place, up to the last one, and a mark."""
    return _is_tuple(value, 2, 2) and is_within(value[0], 1, last) and is_text(value[1], "mv", 1, 1)


def _is_tuple(value, least, most):
    """Whether a value is a tuple of so many elements from least to most."""
    return type(value) is tuple and least <= len(value) <= most


def _wrong_in_order(values):
    """Tell the index of the first element that is no number below how many there are, or came already."""
    for index, value in enumerate(values):
        # What stands ahead of it are numbers by now, so that comparing is safe.
        if not is_within(value, 0, len(values) - 1) or value in values[:index]:
            return index
    return None
