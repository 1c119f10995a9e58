"""Piles of pieces: their creases, their marks, and all piles that keep a rule."""

from foldworld.crossings import is_crossing


def places_of(layers):
    """Tell the list of the places of the pieces in a pile, from the top."""
    places = [0] * len(layers)
    for place, piece in enumerate(layers):
        places[piece] = place
    return places


def ends_of(places, crease):
    """Tell the places of the two pieces of a crease, the upper one first."""
    return min(places[crease], places[crease + 1]), max(places[crease], places[crease + 1])


def is_meeting(places, crease, other_crease):
    """Whether two creases are on one side and cross."""
    if (crease - other_crease) % 2 == 1:
        return False
    return is_crossing(ends_of(places, crease), ends_of(places, other_crease))


def mark_in(places, crease):
    """Tell the mark of a crease."""
    is_above = places[crease + 1] < places[crease]
    return "v" if is_above == (crease % 2 == 0) else "m"


def marks_in(layers):
    """Tell the marks of the creases of a pile."""
    places = places_of(layers)
    return "".join([mark_in(places, crease) for crease in range(len(layers) - 1)])


def grown_piles(told, is_let):
    """Tell the ascending list of all piles with these marks, `?` for any, that keep a rule.

    The rule is asked of the places of the pieces, for the last piece of a pile and the crease ahead
    of it. It must look at none but the pieces up to this one, as a pile grows piece by piece.
    """
    piles = [(0,)]
    for crease, mark in enumerate(told):
        grown = []
        for pile in piles:
            for place in range(crease + 2):
                layers = pile[:place] + (crease + 1,) + pile[place:]
                places = places_of(layers)
                if mark in ("?", mark_in(places, crease)) and is_let(places, crease + 1):
                    grown.append(layers)
        piles = grown
    return sorted(piles)
