"""Samples: rows and foldings that are easily told."""

from foldworld.limits import MOST_ARCHES, MOST_PIECES
from foldworld.shapes import need_number


def rainbow(number):
    """Tell the row with so many arches around one another."""
    need_number(number, 0, MOST_ARCHES)
    return "(" * number + ")" * number


def hills(number):
    """Tell the row with so many short arches alone."""
    need_number(number, 0, MOST_ARCHES)
    return "()" * number


def spiral(number):
    """Tell the folding of so many pieces in which each one is laid around all before it."""
    need_number(number, 1, MOST_PIECES)
    layers = (0,)
    for piece in range(1, number):
        layers = (piece,) + layers if piece % 2 == 1 else layers + (piece,)
    return layers
