"""Certificates: claims of all parts, each with what shows it to the checker."""

from foldworld.clues import fitting
from foldworld.decks import place_after
from foldworld.dough import count_alike, fraction_of, fractions_along, is_less_behind
from foldworld.errors import NoFit
from foldworld.halves import marks as marks_of_ways
from foldworld.halves import ways_of, wrong_places
from foldworld.rivers import meeting, river_of
from foldworld.rounds import rounds
from foldworld.shapes import need_clues, need_course, need_pieces
from foldworld.stamps import crossing, marks_of, sides
from foldworld.strips import layerings, steps
from foldworld.tangles import least_word, tangles_along


def certify_rounds(upper, lower):
    """Tell the claim of the rounds of two rows, and its certificate."""
    found = rounds(upper, lower)
    return ("rounds", upper, lower, len(found)), found


def certify_path(candidate):
    """Tell the claim that a candidate is a path, or that it is none, and its certificate."""
    found = meeting(candidate)
    if found is None:
        return ("river", candidate), river_of(candidate)
    return ("no river", candidate), found


def certify_word(tangle):
    """Tell the claim of the least word for a tangle, as a word, and its certificate."""
    word = least_word(tangle)
    found, _ = tangles_along(len(tangle) // 2, word)
    return ("word", tangle, word), found


def certify_least(tangle):
    """Tell the claim of how many hooks the least word for a tangle has, and its certificate."""
    word = least_word(tangle)
    return ("least", tangle, len(word)), word


def certify_layers(layers):
    """Tell the claim that layers are a folding, or that creases cross, and its certificate."""
    found = crossing(layers)
    if found is None:
        return ("folding", layers), sides(layers)
    return ("crossing", layers), found


def certify_marked(layers):
    """Tell the claim of the marks of a folding, and its certificate."""
    return ("marked", marks_of(layers), layers), ()


def certify_strip(lengths, marks):
    """Tell the claim that a strip folds, or that it is stuck, and its certificate."""
    found = layerings(lengths, marks)
    if found:
        return ("folds", lengths, marks), found[0]
    return ("stuck", lengths, marks), steps(lengths, marks)


def certify_halves(ways):
    """Tell the claim of the marks of ways, and its certificate."""
    return ("halved", marks_of_ways(ways), ways), ()


def certify_marks(text):
    """Tell the claim that marks are those of ways, or of none, and its certificate."""
    found = wrong_places(text)
    if found is None:
        return ("halved", text, ways_of(text)), ()
    return ("not halved", text), found


def certify_course(course):
    """Tell the claim of the fraction of a course, and its certificate."""
    fraction = fraction_of(course)
    lead, loop = course
    return ("course", fraction, lead, loop), fractions_along(course)


def certify_order(course, other_course):
    """Tell the claim of which row is greater, and its certificate; None if they are the same."""
    need_course(course)
    need_course(other_course)
    many = count_alike(course, other_course)
    if many is None:
        return None
    if is_less_behind(course, many):
        return ("greater", other_course, course), many
    return ("greater", course, other_course), many


def certify_card(shuffle, size, number, times):
    """Tell the claim of where a card is after so many times, and its certificate."""
    return ("card", shuffle, size, number, times, place_after(shuffle, size, number, times)), ()


def certify_above(told, pairs, piece, other_piece):
    """Tell the claim that a piece surely lies above the other one, or perhaps not; its certificate."""
    need_clues(told, pairs)
    need_pieces(len(told), piece, other_piece)
    found = fitting(told, pairs)
    if not found:
        raise NoFit()
    against = [layers for layers in found if layers.index(piece) > layers.index(other_piece)]
    if against:
        return ("perhaps not", told, pairs, piece, other_piece), against[0]
    return ("surely", told, pairs, piece, other_piece), ()
