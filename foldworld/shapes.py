"""Which values have the shape that is asked for, and the errors for those that have not."""

from foldworld.errors import InvalidFoot, InvalidNumber, InvalidRow
from foldworld.limits import MOST_ARCHES


def is_within(value, least, most):
    """Whether a value is an integer from least to most."""
    # True and False are of the class bool, so they are no integers here.
    return type(value) is int and least <= value <= most


def is_row(value):
    """Whether a value is an arch row."""
    if type(value) is not str or len(value) > 2 * MOST_ARCHES:
        return False
    height = 0
    for sign in value:
        if sign == "(":
            height += 1
        elif sign == ")":
            height -= 1
        else:
            return False
        if height < 0:
            return False
    return height == 0


def need_number(value, least, most):
    """Raise InvalidNumber unless a value is an integer from least to most."""
    if not is_within(value, least, most):
        raise InvalidNumber(value)


def need_row(value):
    """Raise InvalidRow unless a value is an arch row."""
    if not is_row(value):
        raise InvalidRow(value)


def need_foot(row, value):
    """Raise InvalidFoot unless a value is a foot of the row."""
    if not is_within(value, 0, len(row) - 1):
        raise InvalidFoot(value)
