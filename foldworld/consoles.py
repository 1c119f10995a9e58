"""Consoles: questions and answers in lines of words."""

from foldworld.decks import order_of
from foldworld.dough import count_rounds
from foldworld.errors import InvalidLine
from foldworld.halves import marks
from foldworld.limits import MOST_ARCHES
from foldworld.rounds import rounds
from foldworld.rows import count_rows, index_of_row, mirrored, nth_row, turned
from foldworld.shapes import is_row, is_shuffle, is_size, is_text, is_within, need_number
from foldworld.stamps import crossing, marks_of
from foldworld.tangles import flip, product, strands

_MOST_FIGURES = 60
_MOST_WAYS = 6
_MOST_LENGTH = 200


class Console:
    """What answers lines about rows with one number of arches."""

    def __init__(self, number):
        need_number(number, 1, MOST_ARCHES)
        self.number = number

    def say(self, line):
        """Tell the answer to a line."""
        if type(line) is not str:
            raise InvalidLine(line)
        words = line.split(" ")
        form = (words[0], len(words) - 1)
        if form not in _KINDS:
            raise InvalidLine(line)
        values = [_read(kind, self.number, word) for kind, word in zip(_KINDS[form], words[1:])]
        if None in values:
            raise InvalidLine(line)
        answer = _ANSWERS[form]
        return answer(self.number, *values)


def _read(kind, number, word):
    """Tell the value of a word of some kind, None if it is no such word."""
    read = _READERS[kind]
    return read(number, word)


def _read_number(word):
    """Tell the number that figures without leading zeros tell, None if the word is none."""
    if not is_text(word, "0123456789", 1, _MOST_FIGURES) or (word[0] == "0" and word != "0"):
        return None
    return int(word)


def _read_index(number, word):
    index = _read_number(word)
    return index if is_within(index, 0, count_rows(number) - 1) else None


def _read_row(number, word):
    return word if is_row(word) and len(word) == 2 * number else None


def _read_layers(_, word):
    if not is_text(word, "01234567", 1, 8):
        return None
    layers = tuple([int(figure) for figure in word])
    if sorted(layers) != list(range(len(layers))) or crossing(layers) is not None:
        return None
    return layers


def _read_ways(_, word):
    return word if is_text(word, "ou", 1, _MOST_WAYS) else None


def _read_shuffle(_, word):
    return word if is_shuffle(word) else None


def _read_size(_, word):
    size = _read_number(word)
    return size if is_size(size) else None


def _read_length(_, word):
    length = _read_number(word)
    return length if is_within(length, 1, _MOST_LENGTH) else None


def _tell_rows(number):
    return str(count_rows(number))


def _tell_row(number, index):
    return nth_row(number, index)


def _tell_index(_, row):
    return str(index_of_row(row))


def _tell_turn(_, row):
    return turned(row)


def _tell_mirror(_, row):
    return mirrored(row)


def _tell_flip(_, row):
    return flip(row)


def _tell_rounds(_, upper, lower):
    return str(len(rounds(upper, lower)))


def _tell_product(_, tangle, other_tangle):
    found, many = product(tangle, other_tangle)
    return f"{found} {many}"


def _tell_strands(_, row):
    return str(strands(row))


def _tell_marks(_, layers):
    return "none" if len(layers) == 1 else marks_of(layers)


def _tell_halves(_, ways):
    return marks(ways)


def _tell_deck(_, shuffle, size):
    return str(order_of(shuffle, size))


def _tell_raisins(_, length):
    return str(count_rounds(length))


_READERS = {
    "index": _read_index, "row": _read_row, "layers": _read_layers, "ways": _read_ways,
    "shuffle": _read_shuffle, "size": _read_size, "length": _read_length,
}
# A line is told by its first word and how many words follow: these are of the kinds told here.
_KINDS = {
    ("rows", 0): (),
    ("row", 1): ("index",),
    ("index", 1): ("row",),
    ("turn", 1): ("row",),
    ("mirror", 1): ("row",),
    ("flip", 1): ("row",),
    ("rounds", 2): ("row", "row"),
    ("product", 2): ("row", "row"),
    ("strands", 1): ("row",),
    ("marks", 1): ("layers",),
    ("halves", 1): ("ways",),
    ("deck", 2): ("shuffle", "size"),
    ("rounds", 1): ("length",),
}
_ANSWERS = {
    ("rows", 0): _tell_rows,
    ("row", 1): _tell_row,
    ("index", 1): _tell_index,
    ("turn", 1): _tell_turn,
    ("mirror", 1): _tell_mirror,
    ("flip", 1): _tell_flip,
    ("rounds", 2): _tell_rounds,
    ("product", 2): _tell_product,
    ("strands", 1): _tell_strands,
    ("marks", 1): _tell_marks,
    ("halves", 1): _tell_halves,
    ("deck", 2): _tell_deck,
    ("rounds", 1): _tell_raisins,
}
