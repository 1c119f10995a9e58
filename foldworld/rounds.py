"""Rounds: what comes of two arch rows above and below the same feet, and how they are weighed."""

from math import comb

from foldworld.limits import MOST_LIST, MOST_WEIGHTS
from foldworld.rows import all_rows, mates_of
from foldworld.shapes import need_number, need_rows

_MOST_SPREAD = 5
_MOST_CHAIN = 40
_MOST_WORTH = 1000


def rounds(upper, lower):
    """Tell the tuple of the rounds of two rows, each as the ascending tuple of its feet."""
    need_rows(upper, lower)
    return tuple(_rounds_of_mates(mates_of(upper), mates_of(lower)))


def count_rounds(upper, lower):
    """Tell how many rounds two rows have."""
    return len(rounds(upper, lower))


def spread(number):
    """Tell the tuple of how many pairs of rows with so many arches have 1, 2, .. rounds."""
    need_number(number, 1, _MOST_SPREAD)
    found = [0] * number
    for line in _round_counts(number):
        for many in line:
            found[many - 1] += 1
    return tuple(found)


def weights(number, worth):
    """Tell the weight table of a number of arches for a worth, a tuple of tuples."""
    need_number(number, 1, MOST_WEIGHTS)
    _need_worth(worth)
    return tuple([
        tuple([_power(worth, many) for many in line]) for line in _round_counts(number)
    ])


def weight(number, worth):
    """Tell the determinant of the weight table."""
    need_number(number, 1, MOST_WEIGHTS)
    _need_worth(worth)
    # The product of point [8] is the determinant, and needs no table.
    found = 1
    for index, exponent in enumerate(powers(number)):
        found = found * _power(chain(index + 1, worth), exponent)
    return found


def powers(number):
    """Tell the tuple of the powers of U(1), U(2), .. in the determinant of the weight table."""
    need_number(number, 1, MOST_LIST)
    return tuple([_exponent(number, index) for index in range(1, number + 1)])


def chain(number, worth):
    """Tell U(number) for a worth."""
    need_number(number, 0, _MOST_CHAIN)
    _need_worth(worth)
    # U(-1) is 0, by which the rule for the later ones gives U(1), too.
    before = 0
    here = 1
    for _ in range(number):
        before, here = here, worth * here - before
    return here


def walk_from(upper_mates, lower_mates, foot):
    """Tell the list of the feet of a foot's round as one meets them, along the upper arch first."""
    met = []
    here = foot
    while not met or here != foot:
        other = upper_mates[here]
        met.append(here)
        met.append(other)
        here = lower_mates[other]
    return met


def _rounds_of_mates(upper_mates, lower_mates):
    """Tell the list of the rounds of two rows, told by their mates."""
    found = []
    is_met = [False] * len(upper_mates)
    for foot in range(len(upper_mates)):
        if not is_met[foot]:
            feet = sorted(walk_from(upper_mates, lower_mates, foot))
            found.append(tuple(feet))
            for other in feet:
                is_met[other] = True
    return found


def _round_counts(number):
    """Tell the table of the numbers of rounds of each two rows, in the order of rows."""
    mates = [mates_of(row) for row in all_rows(number)]
    return [[len(_rounds_of_mates(upper, lower)) for lower in mates] for upper in mates]


def _exponent(number, index):
    """Tell the power of U(index) in the determinant for a number of arches."""
    first, second, third = [_choose(2 * number, number - index - less) for less in range(3)]
    return first - 2 * second + third


def _choose(number, part):
    """Tell the binomial coefficient, 0 for a part below 0."""
    return comb(number, part) if part >= 0 else 0


def _power(base, exponent):
    """Tell a number to a power from 0 on, 1 for 0 to the power 0."""
    found = 1
    for _ in range(exponent):
        found = found * base
    return found


def _need_worth(value):
    """Raise InvalidNumber unless a value is a worth that is let in."""
    need_number(value, -_MOST_WORTH, _MOST_WORTH)
