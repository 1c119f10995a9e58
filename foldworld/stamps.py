"""Stamps: all ways to fold a strip of pieces of one length."""

from foldworld.crossings import is_crossing
from foldworld.errors import InvalidNumber, Refused
from foldworld.limits import MOST_LIST, MOST_PIECES
from foldworld.piles import (
    ends_of, grown_foldings, is_meeting, marks_in, pairs_in_all, places_of)
from foldworld.shapes import need_layers, need_marks, need_number

# How many foldings of 1, 2, .. pieces there are: few numbers, but long to list.
_COUNTS = (1, 2, 6, 16, 50, 144, 462, 1392)


def count_foldings(number):
    """Tell how many foldings of so many pieces there are."""
    need_number(number, 1, MOST_PIECES)
    return _COUNTS[number - 1]


def all_foldings(number):
    """Tell the tuple of all foldings of so many pieces, ascending."""
    need_number(number, 1, MOST_LIST)
    return tuple(sorted([
        layers[cut:] + layers[:cut] for layers in _list_topped(number) for cut in range(number)
    ]))


def count_topped(number, piece):
    """Tell how many foldings of so many pieces have this piece on top."""
    need_number(number, 1, MOST_PIECES)
    need_number(piece, 0, number - 1)
    # The foldings that come of one by laying the top piece beneath all others have each piece once
    # on top, so that each piece is on top as often as any other one.
    return _COUNTS[number - 1] // number


def is_folding(layers):
    """Whether layers are a folding."""
    return crossing(layers) is None


def crossing(layers):
    """Tell the first pair of creases, the lesser first, that cross, None if none do."""
    need_layers(layers)
    places = places_of(layers)
    for crease in range(len(layers) - 1):
        for other_crease in range(crease + 1, len(layers) - 1):
            if is_meeting(places, crease, other_crease):
                return crease, other_crease
    return None


def marks_of(layers):
    """Tell the marks of a folding."""
    _need_folding(layers)
    return marks_in(layers)


def sides(layers):
    """Tell the two strings for the right and the left side of a folding."""
    _need_folding(layers)
    return _side(layers, 0), _side(layers, 1)


def topped(layers):
    """Tell the folding with the top piece laid beneath all others."""
    _need_folding(layers)
    return layers[1:] + layers[:1]


def foldings_with(marks):
    """Tell the tuple of all foldings with these marks, ascending."""
    need_marks(marks, 0, MOST_PIECES - 1)
    return tuple(grown_foldings(marks, ()))


def count_with(marks):
    """Tell how many foldings have these marks."""
    return len(foldings_with(marks))


def sure_pairs(marks):
    """Tell the ascending tuple of the pairs of pieces, one above the other in all such foldings."""
    return pairs_in_all(foldings_with(marks))


def is_ring_folding(layers):
    """Whether layers are a ring folding."""
    return is_folding(layers) and _is_ring(layers)


def count_ring_foldings(number):
    """Tell how many ring foldings of so many pieces there are."""
    need_number(number, 1, MOST_PIECES)
    if number % 2 == 1:
        raise InvalidNumber(number)
    # To lay the top piece beneath all others leaves a ring folding one.
    return number * len([layers for layers in _list_topped(number) if _is_ring(layers)])


def _list_topped(number):
    """Tell the ascending list of the foldings of so many pieces with the piece 0 on top."""
    return grown_foldings("?" * (number - 1), [(0, piece) for piece in range(1, number)])


def _need_folding(layers):
    """Raise InvalidLayers unless layers are some, Refused if they are no folding."""
    if not is_folding(layers):
        raise Refused(layers)


def _side(layers, first):
    """Tell the signs of the creases first, first + 2, .. of a folding, by layers."""
    places = places_of(layers)
    signs = ["."] * len(layers)
    for crease in range(first, len(layers) - 1, 2):
        top, bottom = ends_of(places, crease)
        signs[top] = "("
        signs[bottom] = ")"
    return "".join(signs)


def _is_ring(layers):
    """Whether a folding has a crease between its last piece and its first one, free on the left."""
    if len(layers) % 2 == 1:
        return False
    places = places_of(layers)
    ring = (min(places[0], places[-1]), max(places[0], places[-1]))
    left = range(1, len(layers) - 1, 2)
    return not any([is_crossing(ring, ends_of(places, crease)) for crease in left])
