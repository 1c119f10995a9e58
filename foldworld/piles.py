"""Piles of pieces: their creases, their marks, and how they grow piece by piece."""

from foldworld.crossings import is_crossing


def places_of(layers):
    """Tell the list of the places of the pieces in a pile, from the top."""
    places = [0] * len(layers)
    for place, piece in enumerate(layers):
        places[piece] = place
    return places


def ends_of(places, crease):
    """Tell the places of the two pieces of a crease, the upper one first."""
    return min(places[crease], places[crease + 1]), max(places[crease], places[crease + 1])


def is_meeting(places, crease, other_crease):
    """Whether two creases are on one side and cross."""
    if (crease - other_crease) % 2 == 1:
        return False
    return is_crossing(ends_of(places, crease), ends_of(places, other_crease))


def mark_in(places, crease):
    """Tell the mark of a crease."""
    is_above = places[crease + 1] < places[crease]
    return "v" if is_above == (crease % 2 == 0) else "m"


def marks_in(layers):
    """Tell the marks of the creases of a pile."""
    places = places_of(layers)
    return "".join([mark_in(places, crease) for crease in range(len(layers) - 1)])


def grown_piles(told, bars, pairs):
    """Tell the ascending list of the piles with these marks, `?` for any, that keep bars and pairs.

    For each crease the bars of the piece behind it are told, as open_places needs them. A pair of
    pieces is kept if the first one lies above the other one.
    """
    piles = [(0,)]
    for crease, mark in enumerate(told):
        piece = crease + 1
        asked = [pair for pair in pairs if max(pair) == piece]
        grown = [
            layers[:place] + (piece,) + layers[place:]
            for layers in piles
            for place in open_places(layers, bars[crease], mark)
        ]
        piles = [layers for layers in grown if _is_kept(layers, asked)] if asked else grown
    return sorted(piles)


def grown_foldings(told, pairs):
    """Tell the ascending list of the foldings with these marks, `?` for any, that keep pairs."""
    bars = [([], list(range(crease % 2, crease, 2)), []) for crease in range(len(told))]
    return grown_piles(told, bars, pairs)


def open_places(layers, bars, mark):
    """Tell the list of the places at which the next piece can be laid into a pile, for a mark.

    The bars are three lists: the creases between the pieces of which it must not lie, those that
    the crease ahead of it must not cross, and the pieces that must not lie in this crease.
    """
    shut, met, walls = bars
    last = len(layers) - 1
    places = places_of(layers)
    here = places[last]
    least, most = _places_for(mark, last, here)
    for wall in walls:
        if places[wall] < here:
            least = max(least, places[wall] + 1)
        else:
            most = min(most, places[wall])
    closed = [ends_of(places, crease) for crease in shut]
    for crease in met:
        top, bottom = ends_of(places, crease)
        if top < here < bottom:
            least = max(least, top + 1)
            most = min(most, bottom)
        else:
            closed.append((top, bottom))
    is_open = [True] * (last + 2)
    for top, bottom in closed:
        for place in range(top + 1, bottom + 1):
            is_open[place] = False
    return [place for place in range(least, most + 1) if is_open[place]]


def pairs_in_all(piles):
    """Tell the ascending tuple of the pairs of pieces, one above the other in all these piles."""
    found = [places_of(layers) for layers in piles]
    pieces = range(len(found[0]))
    return tuple([
        (piece, other)
        for piece in pieces
        for other in pieces
        if all([places[piece] < places[other] for places in found])
    ])


def _is_kept(layers, pairs):
    """Whether of each pair of pieces the first one lies above the other one."""
    places = places_of(layers)
    return all([places[piece] < places[other] for piece, other in pairs])


def _places_for(mark, last, here):
    """Tell the least and the greatest place of the next piece, for the mark of the crease ahead."""
    if mark == "?":
        return 0, last + 1
    # A valley lays it above an even piece, and beneath an odd one.
    return (0, here) if (mark == "v") == (last % 2 == 0) else (here + 1, last + 1)
