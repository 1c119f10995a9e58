"""The checker: whether a certificate shows that a claim is true."""

from math import gcd

from foldworld.clues import fitting
from foldworld.crossings import is_crossing
from foldworld.decks import place_after
from foldworld.dough import count_alike, is_less
from foldworld.errors import QuestionError, ShapeError, SizeError
from foldworld.halves import marks, need_all_marks, shift_of, way_by
from foldworld.piles import is_meeting, marks_in, places_of
from foldworld.rivers import arches_along, river_of
from foldworld.rounds import rounds
from foldworld.shapes import (
    is_same, is_within, need_candidate, need_course, need_hooks, need_layers, need_pieces)
from foldworld.stamps import marks_of, sides
from foldworld.strips import is_layering, list_steps, need_strip, strip_behind
from foldworld.tangles import least_word, need_tangle, tangles_along

_MOST_OF_COURSES = 10 ** 60


def accepts(claim, certificate):
    """Whether this is a claim, and its certificate shows it."""
    if type(claim) is not tuple or not claim or type(claim[0]) is not str:
        return False
    if claim[0] not in _PARTS or len(claim) != 1 + _PARTS[claim[0]]:
        return False
    shows = _SHOWS[claim[0]]
    told = claim[1:]
    try:
        return shows(certificate, *told)
    except (ShapeError, QuestionError, SizeError):
        # What is not as where it is passed makes no claim.
        return False


def _shows_rounds(certificate, upper, lower, number):
    found = rounds(upper, lower)
    return is_same(number, len(found)) and is_same(certificate, found)


def _shows_river(certificate, path):
    found = river_of(path)
    return found is not None and is_same(certificate, found)


def _shows_no_river(certificate, path):
    need_candidate(path)
    if type(certificate) is not tuple or len(certificate) != 2:
        return False
    arch, other_arch = certificate
    return any([
        _is_among(arch, arches) and _is_among(other_arch, arches) and is_crossing(arch, other_arch)
        for arches in arches_along(path)
    ])


def _shows_word(certificate, tangle, word):
    return _is_word(tangle, word) and is_same(certificate, _tangles(tangle, word))


def _shows_least(certificate, tangle, number):
    least = len(least_word(tangle))
    return is_same(number, least) and _is_word(tangle, certificate) and len(certificate) == least


def _shows_folding(certificate, layers):
    return is_same(certificate, sides(layers))


def _shows_crossing(certificate, layers):
    need_layers(layers)
    last = len(layers) - 2
    return _is_rising(certificate, 0, last) and is_meeting(places_of(layers), *certificate)


def _shows_marked(certificate, text, layers):
    return is_same(text, marks_of(layers)) and is_same(certificate, ())


def _shows_folds(certificate, lengths, text):
    need_strip(lengths, text)
    return is_layering(lengths, certificate) and marks_in(certificate) == text


def _shows_stuck(certificate, lengths, text):
    need_strip(lengths, text)
    if type(certificate) is not tuple:
        return False
    left = (lengths, text)
    for step in certificate:
        left = strip_behind(left[0], left[1], step)
        if left is None:
            return False
    return len(left[0]) > 1 and not list_steps(left[0], left[1])


def _shows_halved(certificate, text, ways):
    return is_same(text, marks(ways)) and is_same(certificate, ())


def _shows_not_halved(certificate, text):
    need_all_marks(text)
    if not _is_rising(certificate, 1, len(text)):
        return False
    place, other = certificate
    if shift_of(place) != shift_of(other):
        return False
    return way_by(text[place - 1], place) != way_by(text[other - 1], other)


def _shows_course(certificate, fraction, lead, loop):
    need_course((lead, loop))
    letters = lead + loop
    if type(certificate) is not tuple or len(certificate) != len(letters) + 1:
        return False
    if not all([_is_fraction(place) for place in certificate]):
        return False
    if not is_same(fraction, certificate[0]) or certificate[-1] != certificate[len(lead)]:
        return False
    return all([
        _is_led(letter, here, there)
        for letter, here, there in zip(letters, certificate, certificate[1:])
    ])


def _shows_greater(certificate, course, other_course):
    if not is_less(other_course, course):
        return False
    return is_same(certificate, count_alike(course, other_course))


def _shows_card(certificate, shuffle, size, place, times, end):
    return is_same(end, place_after(shuffle, size, place, times)) and is_same(certificate, ())


def _shows_surely(certificate, told, pairs, piece, other_piece):
    found = fitting(told, pairs)
    need_pieces(len(told), piece, other_piece)
    if not found or not is_same(certificate, ()):
        return False
    return all([layers.index(piece) < layers.index(other_piece) for layers in found])


def _shows_perhaps_not(certificate, told, pairs, piece, other_piece):
    found = fitting(told, pairs)
    need_pieces(len(told), piece, other_piece)
    return _is_among(certificate, found) and certificate.index(piece) > certificate.index(other_piece)


def _is_among(value, found):
    """Whether a value is one of these, also by its kinds."""
    return any([is_same(value, wanted) for wanted in found])


def _is_rising(value, least, most):
    """Whether a value is a pair of integers from least to most, the lesser first."""
    if type(value) is not tuple or len(value) != 2:
        return False
    low, high = value
    return is_within(low, least, most) and is_within(high, least, most) and low < high


def _is_word(tangle, word):
    """Whether hooks are a word for a tangle."""
    need_tangle(tangle)
    need_hooks(len(tangle) // 2, word)
    found, closed_rounds = tangles_along(len(tangle) // 2, word)
    return found[-1] == tangle and closed_rounds == 0


def _tangles(tangle, word):
    """Tell the tuple of the tangles along a word for a tangle."""
    found, _ = tangles_along(len(tangle) // 2, word)
    return found


def _is_fraction(value):
    """Whether a value is a fraction from 0 to 1."""
    if type(value) is not tuple or len(value) != 2:
        return False
    top, bottom = value
    if not is_within(bottom, 1, _MOST_OF_COURSES) or not is_within(top, 0, bottom):
        return False
    return gcd(top, bottom) == 1


def _is_led(letter, here, there):
    """Whether a letter leads a raisin from one fraction to the other one."""
    top, bottom = here
    other_top, other_bottom = there
    doubled = 2 * top if letter == "l" else 2 * bottom - 2 * top
    return doubled * other_bottom == other_top * bottom


# For each word of a claim how many parts follow, and what shows the claim.
_PARTS = {
    "rounds": 3, "river": 1, "no river": 1, "word": 2, "least": 2, "folding": 1, "crossing": 1,
    "marked": 2, "folds": 2, "stuck": 2, "halved": 2, "not halved": 1, "course": 3, "greater": 2,
    "card": 5, "surely": 4, "perhaps not": 4,
}
_SHOWS = {
    "rounds": _shows_rounds, "river": _shows_river, "no river": _shows_no_river,
    "word": _shows_word, "least": _shows_least, "folding": _shows_folding,
    "crossing": _shows_crossing, "marked": _shows_marked, "folds": _shows_folds,
    "stuck": _shows_stuck, "halved": _shows_halved, "not halved": _shows_not_halved,
    "course": _shows_course, "greater": _shows_greater, "card": _shows_card,
    "surely": _shows_surely, "perhaps not": _shows_perhaps_not,
}
