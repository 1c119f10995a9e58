"""Arch rows: how many there are, their arches, and the rows that come of them."""

from math import comb

from foldworld.errors import InvalidIndex, Refused
from foldworld.limits import MOST_ARCHES, MOST_LIST
from foldworld.shapes import is_within, need_foot, need_number, need_row


def count_rows(number):
    """Tell how many arch rows there are with so many arches."""
    need_number(number, 0, MOST_ARCHES)
    return _count_endings(number, number)


def all_rows(number):
    """Tell the tuple of all arch rows with so many arches, in their order."""
    need_number(number, 0, MOST_LIST)
    return tuple([nth_row(number, index) for index in range(count_rows(number))])


def nth_row(number, index):
    """Tell the row with this index among all with so many arches."""
    need_number(number, 0, MOST_ARCHES)
    if not is_within(index, 0, count_rows(number) - 1):
        raise InvalidIndex(index)
    signs = []
    opening = number
    closing = number
    left = index
    while closing > 0:
        ahead = _count_endings(opening - 1, closing)
        if left < ahead:
            signs.append("(")
            opening -= 1
        else:
            signs.append(")")
            closing -= 1
            left -= ahead
    return "".join(signs)


def index_of_row(row):
    """Tell the index of a row among all with as many arches."""
    need_row(row)
    index = 0
    opening = len(row) // 2
    closing = opening
    for sign in row:
        if sign == "(":
            opening -= 1
        else:
            # All rows that go on with "(" here stand ahead of this one.
            index += _count_endings(opening - 1, closing)
            closing -= 1
    return index


def mate(row, foot):
    """Tell the mate of a foot."""
    need_row(row)
    need_foot(row, foot)
    return mates_of(row)[foot]


def arches(row):
    """Tell the tuple of the arches of a row, ascending."""
    need_row(row)
    return tuple([(foot, other) for foot, other in enumerate(mates_of(row)) if foot < other])


def depth(row):
    """Tell the greatest number of arches around, or at, one foot."""
    need_row(row)
    height = 0
    greatest = 0
    for sign in row:
        height += 1 if sign == "(" else -1
        greatest = max(greatest, height)
    return greatest


def count_short(row):
    """Tell how many arches of a row join two feet next to each other."""
    need_row(row)
    return row.count("()")


def count_with_short(number, other_number):
    """Tell how many rows with the first number of arches have the other number of short ones."""
    need_number(number, 0, MOST_ARCHES)
    need_number(other_number, 0, MOST_ARCHES)
    if number == 0 or other_number == 0:
        # The empty row alone has no short arch.
        return 1 if number == other_number else 0
    return comb(number, other_number) * comb(number, other_number - 1) // number


def turned(row):
    """Tell the row with its first foot as the last one, each arch keeping its two feet."""
    need_row(row)
    if row == "":
        return row
    other = mates_of(row)[0]
    return row[1:other] + "(" + row[other + 1:] + ")"


def mirrored(row):
    """Tell the row read backward, each sign becoming the other one."""
    need_row(row)
    return "".join([")" if sign == "(" else "(" for sign in row[::-1]])


def blocks(row):
    """Tell the tuple of the shortest rows of which a row is made one behind the other."""
    need_row(row)
    mates = mates_of(row)
    found = []
    start = 0
    while start < len(row):
        end = mates[start] + 1
        found.append(row[start:end])
        start = end
    return tuple(found)


def exchanged(row, foot, other_foot):
    """Tell the row in which the arches of these two feet are exchanged."""
    need_row(row)
    need_foot(row, foot)
    need_foot(row, other_foot)
    found = exchange_in(mates_of(row), foot, other_foot)
    if found is None:
        raise Refused(other_foot)
    return found


def neighbours(row):
    """Tell the tuple of all rows that come by one exchange, in their order."""
    need_row(row)
    mates = mates_of(row)
    found = []
    # Each pair of arches gives a row of its own, as all the other arches stay: none comes twice.
    for foot in range(len(row)):
        for other_foot in range(foot + 1, len(row)):
            if foot < mates[foot] and other_foot < mates[other_foot]:
                near = exchange_in(mates, foot, other_foot)
                if near is not None:
                    found.append(near)
    return tuple(sorted(found))


def mates_of(row):
    """Tell the list of the mates of all feet of an arch row."""
    mates = [0] * len(row)
    still_open = []
    for foot, sign in enumerate(row):
        if sign == "(":
            still_open.append(foot)
        else:
            other = still_open.pop()
            mates[foot] = other
            mates[other] = foot
    return mates


def row_of_mates(mates):
    """Tell the signs of feet with these mates: an arch row, if no two arches cross."""
    return "".join(["(" if foot < other else ")" for foot, other in enumerate(mates)])


def exchange_in(mates, foot, other_foot):
    """Tell the row with these mates with the arches of two feet exchanged, None if they cannot be."""
    if other_foot == foot or other_foot == mates[foot]:
        return None
    first, second, third, last = sorted([foot, mates[foot], other_foot, mates[other_foot]])
    joined = list(mates)
    if mates[first] == second:
        _join(joined, first, last)
        _join(joined, second, third)
    else:
        _join(joined, first, second)
        _join(joined, third, last)
    found = row_of_mates(joined)
    # Where the new arches cross another one, the signs stand for other arches than those joined.
    return found if mates_of(found) == joined else None


def _count_endings(opening, closing):
    """Tell in how many ways a row can end that lacks so many "(" and so many ")", no fewer ")"."""
    # All orders of these signs, less those in which one ")" too many comes: by reflection these
    # are the orders with one ")" more and one "(" less.
    if opening < 0:
        return 0
    signs = opening + closing
    return comb(signs, opening) - comb(signs, closing + 1)


def _join(mates, foot, other_foot):
    """Make two feet the mates of each other."""
    mates[foot] = other_foot
    mates[other_foot] = foot
