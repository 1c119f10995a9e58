"""Rivers: two arch rows that make one round, and the paths along them."""

from foldworld.crossings import first_crossing
from foldworld.errors import Refused
from foldworld.limits import MOST_RIVERS
from foldworld.rounds import walk_from
from foldworld.rows import all_rows, mates_of
from foldworld.shapes import need_candidate, need_number, need_rows

_MOST_COUNTED = 6


def is_river(upper, lower):
    """Whether two rows are a river."""
    need_rows(upper, lower)
    return _is_one_round(mates_of(upper), mates_of(lower))


def count_rivers(number):
    """Tell how many rivers there are with so many arches in each row."""
    need_number(number, 1, _MOST_COUNTED)
    return len(_list_rivers(number))


def all_rivers(number):
    """Tell the tuple of all rivers with so many arches in each row, in their order."""
    need_number(number, 1, MOST_RIVERS)
    return tuple(_list_rivers(number))


def path(upper, lower):
    """Tell the feet of a river as one meets them from foot 0 on, along the upper arch first."""
    if not is_river(upper, lower):
        raise Refused(lower)
    return tuple(walk_from(mates_of(upper), mates_of(lower), 0))


def river_of(candidate):
    """Tell the pair of rows of which a candidate is the path, None if it is none."""
    if meeting(candidate) is not None:
        return None
    upper, lower = arches_along(candidate)
    return _row_with(upper), _row_with(lower)


def meeting(candidate):
    """Tell two arches of a candidate on one side that cross, None if it is a path."""
    need_candidate(candidate)
    upper, lower = arches_along(candidate)
    found = first_crossing(upper)
    return first_crossing(lower) if found is None else found


def arches_along(candidate):
    """Tell the pair of the ascending lists of arches that join what follows in a candidate.

    The first ones join the first and the second number and so on, the others the second and the
    third one and so on, and the last and the first one.
    """
    return (
        _joined(candidate[0::2], candidate[1::2]),
        _joined(candidate[1::2], candidate[2::2] + candidate[:1]),
    )


def _is_one_round(upper_mates, lower_mates):
    """Whether two rows, told by their mates, have one round."""
    if not upper_mates:
        return False
    return len(walk_from(upper_mates, lower_mates, 0)) == len(upper_mates)


def _list_rivers(number):
    """Tell the list of all rivers with so many arches in each row, in their order."""
    found = [(row, mates_of(row)) for row in all_rows(number)]
    return [
        (upper, lower)
        for upper, upper_mates in found
        for lower, lower_mates in found
        if _is_one_round(upper_mates, lower_mates)
    ]


def _joined(feet, other_feet):
    """Tell the ascending list of the arches that join each foot to the other one."""
    return sorted([(min(foot, other), max(foot, other)) for foot, other in zip(feet, other_feet)])


def _row_with(arches):
    """Tell the arch row that has these arches, none of which cross."""
    signs = [")"] * (2 * len(arches))
    for low, _ in arches:
        signs[low] = "("
    return "".join(signs)
