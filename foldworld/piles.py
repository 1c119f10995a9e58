"""Piles of pieces: their creases, their marks, all piles that keep a rule, and all foldings."""

from foldworld.crossings import is_crossing


def places_of(layers):
    """Tell the list of the places of the pieces in a pile, from the top."""
    places = [0] * len(layers)
    for place, piece in enumerate(layers):
        places[piece] = place
    return places


def ends_of(places, crease):
    """Tell the places of the two pieces of a crease, the upper one first."""
    return min(places[crease], places[crease + 1]), max(places[crease], places[crease + 1])


def is_meeting(places, crease, other_crease):
    """Whether two creases are on one side and cross."""
    if (crease - other_crease) % 2 == 1:
        return False
    return is_crossing(ends_of(places, crease), ends_of(places, other_crease))


def mark_in(places, crease):
    """Tell the mark of a crease."""
    is_above = places[crease + 1] < places[crease]
    return "v" if is_above == (crease % 2 == 0) else "m"


def marks_in(layers):
    """Tell the marks of the creases of a pile."""
    places = places_of(layers)
    return "".join([mark_in(places, crease) for crease in range(len(layers) - 1)])


def grown_piles(told, is_let):
    """Tell the ascending list of all piles with these marks, `?` for any, that keep a rule.

    The rule is asked of the places of the pieces, for the last piece of a pile and the crease ahead
    of it. It must look at none but the pieces up to this one, as a pile grows piece by piece.
    """
    piles = [(0,)]
    for crease, mark in enumerate(told):
        grown = []
        for pile in piles:
            for place in range(crease + 2):
                layers = pile[:place] + (crease + 1,) + pile[place:]
                places = places_of(layers)
                if mark in ("?", mark_in(places, crease)) and is_let(places, crease + 1):
                    grown.append(layers)
        piles = grown
    return sorted(piles)


def grown_foldings(told, pairs):
    """Tell the ascending list of the foldings with these marks, `?` for any, that keep pairs.

    A pair of pieces is kept if the first one lies above the other one.
    """
    piles = [(0,)]
    for crease, mark in enumerate(told):
        piece = crease + 1
        asked = [pair for pair in pairs if max(pair) == piece]
        grown = [
            layers[:place] + (piece,) + layers[place:]
            for layers in piles
            for place in _free_places(layers, mark)
        ]
        piles = [layers for layers in grown if _is_kept(layers, asked)] if asked else grown
    return sorted(piles)


def pairs_in_all(piles):
    """Tell the ascending tuple of the pairs of pieces, one above the other in all these piles."""
    found = [places_of(layers) for layers in piles]
    pieces = range(len(found[0]))
    return tuple([
        (piece, other)
        for piece in pieces
        for other in pieces
        if all([places[piece] < places[other] for places in found])
    ])


def _is_kept(layers, pairs):
    """Whether of each pair of pieces the first one lies above the other one."""
    places = places_of(layers)
    return all([places[piece] < places[other] for piece, other in pairs])


def _free_places(layers, mark):
    """Tell the list of the places at which the next piece can be laid into a folding, for a mark."""
    last = len(layers) - 1
    places = places_of(layers)
    # The creases on the side of the new one join the pieces 0 and 1, 2 and 3, .. on the right, and
    # 1 and 2, 3 and 4, .. on the left. The last piece, and the piece 0 on the left, have none yet.
    ends = list(range(last + 1))
    for piece in range(last % 2, last, 2):
        ends[places[piece]] = places[piece + 1]
        ends[places[piece + 1]] = places[piece]
    found = []
    if mark != ("m" if last % 2 == 0 else "v"):
        found += _gaps_above(ends, places[last])
    if mark != ("v" if last % 2 == 0 else "m"):
        found += _gaps_below(ends, places[last])
    return found


def _gaps_above(ends, place):
    """Tell the list of the places upward from a layer, up to a crease that lies around it."""
    # What lies between the two layers of a crease cannot be reached from outside.
    found = [place]
    while place > 0 and ends[place - 1] < place:
        place = ends[place - 1]
        found.append(place)
    return found


def _gaps_below(ends, place):
    """Tell the list of the places downward from a layer, up to a crease that lies around it."""
    found = [place + 1]
    while place + 1 < len(ends) and ends[place + 1] > place:
        place = ends[place + 1]
        found.append(place + 1)
    return found
