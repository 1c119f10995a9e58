"""Clues: what is sure of a folding, or of halves, when only some of it has been seen."""

from foldworld.errors import NoFit
from foldworld.halves import shift_of, way_by
from foldworld.limits import MOST_WAYS
from foldworld.piles import grown_foldings, marks_in, pairs_in_all
from foldworld.shapes import need_clues, need_number, need_spots


def fitting(told, pairs):
    """Tell the tuple of the foldings that fit clues, ascending."""
    need_clues(told, pairs)
    return tuple(grown_foldings(told, pairs))


def sure_marks(told, pairs):
    """Tell the marks that all foldings that fit have, `?` for the others."""
    found = _some_fitting(told, pairs)
    marks = {0: "v", len(found): "m"}
    return "".join([marks.get(many, "?") for many in _count_mountains(found)])


def sure_above(told, pairs):
    """Tell the ascending tuple of the pairs of pieces, one above the other in all that fit."""
    return pairs_in_all(_some_fitting(told, pairs))


def best_crease(told, pairs):
    """Tell the first crease the mark of which leaves the fewest, at worst; None if all are alike."""
    found = _some_fitting(told, pairs)
    worst = [max(many, len(found) - many) for many in _count_mountains(found)]
    if not worst or min(worst) == len(found):
        return None
    return worst.index(min(worst))


def sure_ways(number, spots):
    """Tell the ways that all ways that fit spots have, `?` for the others."""
    return _some_told(number, spots)


def count_ways(number, spots):
    """Tell how many ways fit spots."""
    ways = _told_ways(number, spots)
    return 0 if ways is None else 1 << ways.count("?")


def first_ways(number, spots):
    """Tell the first ways that fit spots."""
    return _some_told(number, spots).replace("?", "o")


def _some_fitting(told, pairs):
    """Tell the tuple of the foldings that fit clues; NoFit is raised if there are none."""
    found = fitting(told, pairs)
    if not found:
        raise NoFit()
    return found


def _count_mountains(foldings):
    """Tell the list of how many of these foldings have the mark `m`, for each crease."""
    marks = [marks_in(layers) for layers in foldings]
    return ["".join(signs).count("m") for signs in zip(*marks)]


def _told_ways(number, spots):
    """Tell the ways that spots tell, `?` for the others; None if two spots do not go together."""
    need_number(number, 1, MOST_WAYS)
    need_spots(number, spots)
    ways = ["?"] * number
    for place, mark in spots:
        index = number - 1 - shift_of(place)
        way = way_by(mark, place)
        if ways[index] not in ("?", way):
            return None
        ways[index] = way
    return "".join(ways)


def _some_told(number, spots):
    """Tell the ways that spots tell; NoFit is raised if no ways fit."""
    ways = _told_ways(number, spots)
    if ways is None:
        raise NoFit()
    return ways
