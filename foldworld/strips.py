"""Strips with told lengths: how they lie when folded, and the steps that fold them."""

from foldworld.errors import Refused
from foldworld.piles import grown_piles, open_places
from foldworld.shapes import need_layers_of, need_lengths, need_marks


def stretches(lengths):
    """Tell the tuple of the pairs of points, the lesser first, over which the pieces lie."""
    need_lengths(lengths)
    points = _walk(lengths)
    return tuple([_stretch(points, piece) for piece in range(len(lengths))])


def span(lengths):
    """Tell how long the folded strip is."""
    need_lengths(lengths)
    points = _walk(lengths)
    return max(points) - min(points)


def is_layering(lengths, layers):
    """Whether layers are a layering of the lengths."""
    need_lengths(lengths)
    need_layers_of(len(lengths), layers)
    for crease, bars in enumerate(_list_bars(lengths)):
        # Each piece is to lie where it could be laid when the pile had grown so far.
        before = tuple([piece for piece in layers if piece <= crease])
        behind = [piece for piece in layers if piece <= crease + 1]
        if behind.index(crease + 1) not in open_places(before, bars, "?"):
            return False
    return True


def layerings(lengths, marks):
    """Tell the tuple of all layerings of the lengths with these marks, ascending."""
    need_strip(lengths, marks)
    return tuple(_list_layerings(lengths, marks))


def count_layerings(lengths):
    """Tell how many layerings of the lengths there are, with any marks."""
    need_lengths(lengths)
    return len(_list_layerings(lengths, "?" * (len(lengths) - 1)))


def is_foldable(lengths, marks):
    """Whether the strip folds."""
    return len(layerings(lengths, marks)) > 0


def steps(lengths, marks):
    """Tell some tuple of steps behind which no step can be made."""
    need_strip(lengths, marks)
    made = []
    can_be_made = list_steps(lengths, marks)
    while can_be_made:
        made.append(can_be_made[0])
        lengths, marks = strip_behind(lengths, marks, can_be_made[0])
        can_be_made = list_steps(lengths, marks)
    return tuple(made)


def after_step(lengths, marks, step):
    """Tell the pair of the lengths and the marks behind a step."""
    need_strip(lengths, marks)
    found = strip_behind(lengths, marks, step)
    if found is None:
        raise Refused(step)
    return found


def steps_now(lengths, marks):
    """Tell the ascending tuple of all steps that can be made."""
    need_strip(lengths, marks)
    return tuple(list_steps(lengths, marks))


def need_strip(lengths, marks):
    """Raise InvalidLengths unless lengths are some, InvalidMarks unless marks go with them."""
    need_lengths(lengths)
    need_marks(marks, len(lengths) - 1, len(lengths) - 1)


def list_steps(lengths, marks):
    """Tell the ascending list of all steps that can be made."""
    found = []
    for crease in range(len(marks) - 1):
        before, middle, behind = lengths[crease:crease + 3]
        if marks[crease] != marks[crease + 1] and middle <= min(before, behind):
            found.append(("crimp", crease))
    if len(lengths) > 1 and lengths[0] <= lengths[1]:
        found.append(("end", 0))
    if len(lengths) > 1 and lengths[-1] <= lengths[-2]:
        found.append(("end", 1))
    return found


def strip_behind(lengths, marks, step):
    """Tell the lengths and the marks behind a step, None if it is no step that can be made."""
    if not _is_step(step) or step not in list_steps(lengths, marks):
        return None
    kind, number = step
    if kind == "crimp":
        before, middle, behind = lengths[number:number + 3]
        joined = (before - middle + behind,)
        return lengths[:number] + joined + lengths[number + 3:], marks[:number] + marks[number + 2:]
    if number == 0:
        return lengths[1:], marks[1:]
    return lengths[:-1], marks[:-1]


def _walk(lengths):
    """Tell the points at which the pieces begin, and the one at which the last one ends."""
    points = [0]
    for piece, length in enumerate(lengths):
        points.append(points[piece] + (length if piece % 2 == 0 else -length))
    return points


def _stretch(points, piece):
    """Tell the pair of points, the lesser first, over which a piece lies."""
    return min(points[piece], points[piece + 1]), max(points[piece], points[piece + 1])


def _list_bars(lengths):
    """Tell the list of what bars the pieces behind all creases, as piles grow."""
    points = _walk(lengths)
    return [_bars_at(points, crease) for crease in range(len(lengths) - 1)]


def _bars_at(points, crease):
    """Tell the creases and pieces that bar the piece behind a crease, of those ahead of it."""
    here = points[crease + 1]
    stretch = _stretch(points, crease + 1)
    shut = [other for other in range(crease) if _is_inside(points[other + 1], stretch)]
    met = [other for other in range(crease % 2, crease, 2) if points[other + 1] == here]
    walls = [piece for piece in range(crease) if _is_inside(here, _stretch(points, piece))]
    return shut, met, walls


def _is_inside(point, stretch):
    """Whether a point is within a stretch, but not at an end of it."""
    low, high = stretch
    return low < point < high


def _list_layerings(lengths, told):
    """Tell the ascending list of the layerings with these marks, `?` for any."""
    return grown_piles(told, _list_bars(lengths), ())


def _is_step(value):
    """Whether a value has the shape of a step."""
    # True and False equal the numbers 1 and 0, so the kinds are looked at ahead of the steps.
    if type(value) is not tuple or len(value) != 2:
        return False
    return type(value[0]) is str and type(value[1]) is int
