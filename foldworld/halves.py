"""Halves: a strip folded in the middle over and over, and the walk that it is when opened."""

from foldworld.errors import InvalidMarks, TooMany
from foldworld.limits import MOST_LETTERS, MOST_SHOWN
from foldworld.shapes import need_marks, need_number, need_place, need_ways


def mark_at(ways, place):
    """Tell the mark of a place."""
    need_ways(ways)
    need_place(len(ways), place)
    return _mark(ways, place)


def marks(ways):
    """Tell the string of the marks of all places."""
    need_ways(ways)
    _need_few(ways)
    return "".join([_mark(ways, place) for place in range(1, 1 << len(ways))])


def count_valleys(ways, last):
    """Tell how many of the places up to the last one are valleys."""
    need_ways(ways)
    need_place(len(ways), last)
    many = 0
    for shift, way in enumerate(ways[::-1]):
        # Of the odd numbers up to this one those that leave 1 by 4, or those that leave 3, count.
        most = last >> shift
        many += (most + 3) // 4 if way == "o" else (most + 1) // 4
    return many


def layers_of(ways):
    """Tell the layers of the folded strip."""
    need_ways(ways)
    _need_few(ways)
    columns = [(piece,) for piece in range(1 << len(ways))]
    for way in ways:
        half = len(columns) // 2
        folded = []
        for column in range(half):
            left = columns[column]
            right = columns[len(columns) - 1 - column][::-1]
            folded.append(right + left if way == "o" else left + right)
        columns = folded
    return columns[0]


def piece_in(ways, number):
    """Tell the piece in a layer."""
    need_ways(ways)
    need_number(number, 0, (1 << len(ways)) - 1)
    column = 0
    layer = number
    # Fold by fold, from the last one, the pile is opened: half as many layers, twice as many columns.
    for done, way in enumerate(ways[::-1]):
        layers = 1 << (len(ways) - 1 - done)
        is_upper = layer < layers
        if not is_upper:
            layer -= layers
        if is_upper == (way == "o"):
            layer = layers - 1 - layer
            column = (2 << done) - 1 - column
    return column


def layer_of(ways, number):
    """Tell in which layer a piece lies."""
    need_ways(ways)
    need_number(number, 0, (1 << len(ways)) - 1)
    column = number
    layer = 0
    for done, way in enumerate(ways):
        layers = 1 << done
        columns = 1 << (len(ways) - done)
        is_right = column >= columns // 2
        if is_right:
            column = columns - 1 - column
            layer = layers - 1 - layer
        if is_right == (way == "u"):
            layer += layers
    return layer


def ways_of(text):
    """Tell the ways whose marks these are, None if there are none."""
    if wrong_places(text) is not None:
        return None
    return "".join(_told_ways(text)[::-1])


def wrong_places(text):
    """Tell two places of one fold the marks of which do not go together, None if there are ways."""
    need_all_marks(text)
    told = _told_ways(text)
    for index, mark in enumerate(text):
        place = index + 1
        shift = shift_of(place)
        if way_by(mark, place) != told[shift]:
            return 1 << shift, place
    return None


def point_after(ways, number):
    """Tell the point of the opened walk behind so many steps."""
    need_ways(ways)
    need_number(number, 0, 1 << len(ways))
    return _point(ways, _middles(ways), number)


def all_points(ways):
    """Tell the tuple of all points of the opened walk from the beginning on."""
    need_ways(ways)
    _need_few(ways)
    middles = _middles(ways)
    return tuple([_point(ways, middles, number) for number in range((1 << len(ways)) + 1)])


def is_halved_word(text):
    """Whether a string of marks stands somewhere among the marks of some ways."""
    need_marks(text, 1, MOST_LETTERS)
    return _is_halved(text)


def shift_of(place):
    """Tell how often a place is divided by 2: it comes of so many folds ahead of the last one."""
    return (place & -place).bit_length() - 1


def mark_by(way, place):
    """Tell the mark of a place, the way of its fold being told."""
    return "v" if _leaves_one(place) == (way == "o") else "m"


def way_by(mark, place):
    """Tell the way of the fold of a place, the mark of which is told."""
    return "o" if _leaves_one(place) == (mark == "v") else "u"


def need_all_marks(text):
    """Raise InvalidMarks unless a text is as many marks as some number of folds makes."""
    need_marks(text, 1, (1 << MOST_SHOWN) - 1)
    if (len(text) + 1) & len(text) != 0:
        raise InvalidMarks(text)


def _need_few(ways):
    """Raise TooMany if there are more ways than all of whose marks are listed."""
    if len(ways) > MOST_SHOWN:
        raise TooMany(MOST_SHOWN)


def _leaves_one(place):
    """Whether the odd part of a place leaves 1 by 4."""
    return (place >> shift_of(place)) % 4 == 1


def _mark(ways, place):
    """Tell the mark of a place."""
    return mark_by(ways[len(ways) - 1 - shift_of(place)], place)


def _told_ways(text):
    """Tell the list of the ways, the last one first, as the first place of each fold tells them."""
    firsts = [1 << shift for shift in range(len(text).bit_length())]
    return [way_by(text[place - 1], place) for place in firsts]


def _middles(ways):
    """Tell the list of the points in the middle of the walks of the last one, two, .. ways."""
    middles = []
    x, y = 1, 0
    for way in ways[::-1]:
        middles.append((x, y))
        # The other half of the walk is the first half, turned about the middle: that is its end.
        x, y = (x - y, x + y) if way == "o" else (x + y, y - x)
    return middles


def _point(ways, middles, number):
    """Tell the point of the walk behind so many steps."""
    opened = []
    left = number
    for index, way in enumerate(ways):
        half = 1 << (len(ways) - 1 - index)
        if left > half:
            # The other half, from its end, is the first half from its beginning, turned.
            left = 2 * half - left
            opened.append((middles[len(ways) - 1 - index], way))
    x, y = left, 0
    for middle, way in opened[::-1]:
        middle_x, middle_y = middle
        x, y = x - middle_x, y - middle_y
        x, y = (y, -x) if way == "o" else (-y, x)
        x, y = x + middle_x, y + middle_y
    return x, y


def _is_halved(text):
    """Whether marks stand somewhere among those of some ways, also if there are none."""
    if len(text) < 2:
        return True
    # Every other mark comes of the last fold, by turns `v` and `m`; the others are those of a strip
    # folded once less.
    for first in range(2):
        if _is_by_turns(text[first::2]) and _is_halved(text[1 - first::2]):
            return True
    return False


def _is_by_turns(text):
    """Whether no two marks next to each other are alike."""
    return "mm" not in text and "vv" not in text
