"""Wishes: what they look like, and whether they hold for rows under names."""

from foldworld.limits import MOST_ARCHES
from foldworld.rivers import is_river
from foldworld.rounds import count_rounds
from foldworld.rows import count_short, depth, mates_of, turned
from foldworld.shapes import is_name, is_within
from foldworld.tangles import strands


def is_wish(value):
    """Whether a value is a wish."""
    if type(value) is not tuple or not value or type(value[0]) is not str:
        return False
    if value[0] not in _SHAPES:
        return False
    names, numbers = _SHAPES[value[0]]
    if len(value) != 1 + names + numbers:
        return False
    return numbers == 0 or is_within(value[-1], 0, MOST_ARCHES)


def names_in(wish):
    """Tell the tuple of what stands in a wish in the place of names."""
    names, _ = _SHAPES[wish[0]]
    return wish[1:1 + names]


def does_hold(wish, rows):
    """Whether a wish holds for a dict of rows by their names."""
    names = names_in(wish)
    # What is no name may be no key of a dict either, so this is asked first.
    if not all([is_name(name) and name in rows for name in names]):
        return False
    found = [rows[name] for name in names]
    if len(found[0]) != len(found[-1]):
        return False
    told = found + list(wish[1 + len(names):])
    test = _TESTS[wish[0]]
    return test(*told)


def _has_rounds(upper, lower, number):
    """Whether two rows have so many rounds."""
    return count_rounds(upper, lower) == number


def _is_river(upper, lower):
    """Whether two rows are a river."""
    return is_river(upper, lower)


def _has_short(row, number):
    """Whether a row has at least so many short arches."""
    return count_short(row) >= number


def _is_low(row, number):
    """Whether the depth of a row is at most so great."""
    return depth(row) <= number


def _is_near(row, other_row):
    """Whether one row comes of the other one by one exchange."""
    # Where just four feet have other mates, these are two arches in each row.
    unlike = [foot for foot, other in zip(mates_of(row), mates_of(other_row)) if foot != other]
    return len(unlike) == 4


def _has_strands(tangle, number):
    """Whether a tangle has so many strands."""
    return strands(tangle) == number


def _is_alike(row, other_row):
    """Whether one row, turned some times or not at all, is the other one."""
    found = row
    for _ in row:
        if found == other_row:
            return True
        found = turned(found)
    return found == other_row


# For each kind of wish how many names stand in it, and how many numbers behind them.
_SHAPES = {
    "rounds": (2, 1), "river": (2, 0), "short": (1, 1), "depth": (1, 1), "near": (2, 0),
    "strands": (1, 1), "alike": (2, 0),
}
_TESTS = {
    "rounds": _has_rounds, "river": _is_river, "short": _has_short, "depth": _is_low,
    "near": _is_near, "strands": _has_strands, "alike": _is_alike,
}
