"""Tangles: arch rows laid round a square, their products, and the words for them."""

from foldworld.errors import Refused, TooMany
from foldworld.limits import MOST_ARCHES, MOST_TANGLE
from foldworld.rounds import count_rounds
from foldworld.rows import mates_of, mirrored, row_of_mates
from foldworld.shapes import need_hooks, need_number, need_row, need_rows


def unit(size):
    """Tell the tangle that joins each top to the bottom with its number."""
    need_number(size, 1, MOST_ARCHES)
    return "(" * size + ")" * size


def hook(size, number):
    """Tell the tangle that joins the tops number and number + 1, and these bottoms."""
    need_number(size, 1, MOST_ARCHES)
    need_number(number, 0, size - 2)
    around = size - 2 - number
    return "(" * number + "()" + "(" * around + ")" * around + "()" + ")" * number


def flip(tangle):
    """Tell the tangle with tops and bottoms exchanged."""
    need_row(tangle)
    # The top with a number is as far from the first foot as its bottom is from the last one.
    return mirrored(tangle)


def strands(tangle):
    """Tell how many arches of a tangle join a top and a bottom."""
    need_row(tangle)
    tops = tangle[:len(tangle) // 2]
    return tops.count("(") - tops.count(")")


def product(tangle, other_tangle):
    """Tell the tangle that comes of the first one above the other one, and the closed rounds."""
    need_rows(tangle, other_tangle)
    first = mates_of(tangle)
    second = mates_of(other_tangle)
    is_met = [False] * (len(tangle) // 2)
    mates = [_follow(first, second, foot, is_met) for foot in range(len(tangle))]
    return row_of_mates(mates), _count_closed(first, second, is_met)


def closed(tangle):
    """Tell how many rounds there are when each top is joined to the bottom with its number."""
    need_tangle(tangle)
    return count_rounds(tangle, unit(len(tangle) // 2))


def made_of(size, hooks):
    """Tell the tangle, and the closed rounds, that come of hooks from above."""
    need_number(size, 1, MOST_ARCHES)
    need_hooks(size, hooks)
    tangles, many = tangles_along(size, hooks)
    return tangles[-1], many


def least_word(tangle):
    """Tell the shortest word for a tangle, the first of these as tuples."""
    need_tangle(tangle)
    size = len(tangle) // 2
    if size > MOST_TANGLE:
        raise TooMany(MOST_TANGLE)
    hooks = [hook(size, number) for number in range(size - 1)]
    words = {unit(size): ()}
    reached = [unit(size)]
    # A least word without its last hook is a least word, too. So what is reached first, from the
    # least words of one length in their order, is reached by its own least word.
    while tangle not in words:
        further = []
        for known in reached:
            for number, wanted in enumerate(hooks):
                found, many = product(known, wanted)
                if many == 0 and found not in words:
                    words[found] = words[known] + (number,)
                    further.append(found)
        reached = further
    return words[tangle]


def tangles_along(size, hooks):
    """Tell the tuple of the tangles that come after 0, 1, 2, .. hooks, and the closed rounds."""
    tangles = [unit(size)]
    closed_rounds = 0
    for number in hooks:
        tangle, more = product(tangles[-1], hook(size, number))
        tangles.append(tangle)
        closed_rounds += more
    return tuple(tangles), closed_rounds


def need_tangle(value):
    """Raise InvalidRow unless a value is a tangle, Refused if it has no arch."""
    need_row(value)
    if value == "":
        raise Refused(value)


def _follow(first, second, foot, is_met):
    """Tell the outer foot to which an outer foot leads; the joins between are marked as met."""
    half = len(is_met)
    is_above = foot < half
    here = first[foot] if is_above else second[foot]
    while (here < half) != is_above:
        # The bottom with a number of the one is joined to the top with this number of the other.
        here = len(first) - 1 - here
        is_above = not is_above
        is_met[min(here, len(first) - 1 - here)] = True
        here = first[here] if is_above else second[here]
    return here


def _count_closed(first, second, is_met):
    """Tell how many closed rounds go through the joins not yet met; they are marked as met."""
    many = 0
    for join in range(len(is_met)):
        if not is_met[join]:
            many += 1
        here = join
        while not is_met[here]:
            is_met[here] = True
            other = second[here]
            is_met[other] = True
            here = len(first) - 1 - first[len(first) - 1 - other]
    return many
