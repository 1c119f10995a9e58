"""Claims and certificates by the words of point [22], out of the tests' own reckoning alone.

`is_right` is a second checker: slower, for small numbers, and written in another way.
"""

from fractions import Fraction
from functools import lru_cache

from tests.support import any_cross, cross, is_row_by_words, known_arches, rounds_by_words
from tests.test_clues import FOLDINGS, fitting_by_words
from tests.test_decks import decks_by_words
from tests.test_dough import as_pair, is_less_by_words, moved, row_of
from tests.test_halves import all_ways, folded
from tests.test_rivers import sides_of
from tests.test_stamps import crease_by_words, crossing_by_words, marks_by_words
from tests.test_strips import behind_by_words, is_layering_by_words, steps_by_words
from tests.test_tangles import hook_by_words, product_by_words, unit_by_words, words_by_search


class NoClaim(Exception):
    """What is not as where it is passed."""


def same(value, wanted):
    """Whether both are the same, also by their kinds: all that is wanted shows all of itself."""
    return repr(value) == repr(wanted)


def need(is_so):
    if not is_so:
        raise NoClaim


def number(value, least, most):
    need(type(value) is int and least <= value <= most)
    return value


def text(value, signs, least, most):
    need(type(value) is str and least <= len(value) <= most and set(value) <= set(signs))
    return value


def row(value, least=0):
    need(is_row_by_words(text(value, "()", 2 * least, 24)))
    return value


def several(value, least, most):
    need(type(value) is tuple and least <= len(value) <= most)
    return value


def order(value, least, most):
    """The numbers from 0 on, each once, in some order."""
    for one in several(value, least, most):
        number(one, 0, len(value) - 1)
    need(len(set(value)) == len(value))
    return value


def candidate(value):
    order(value, 2, 24)
    need(value[0] == 0 and len(value) % 2 == 0)
    return value


def strip(lengths, marks):
    for length in several(lengths, 1, 8):
        number(length, 1, 1000)
    text(marks, "mv", len(lengths) - 1, len(lengths) - 1)


def course(value):
    lead, loop = several(value, 2, 2)
    text(lead, "lr", 0, 40)
    text(loop, "lr", 1, 40)


def rounds(certificate, upper, lower, many):
    need(len(row(upper)) == len(row(lower)))
    found = rounds_by_words(upper, lower)
    return same(many, len(found)) and same(certificate, found)


def is_path(path):
    return not any(any_cross(side) for side in sides_of(path))


def row_with(side):
    lows = {low for low, _ in side}
    return "".join("(" if foot in lows else ")" for foot in range(2 * len(side)))


def river(certificate, path):
    upper, lower = sides_of(candidate(path))
    return is_path(path) and same(certificate, (row_with(upper), row_with(lower)))


def no_river(certificate, path):
    pairs = [(one, other) for side in sides_of(candidate(path)) for one in side for other in side
             if cross(one, other)]
    return any(same(certificate, pair) for pair in pairs)


def tangles_by_words(size, word):
    found, rounds_left = [unit_by_words(size)], 0
    for which in word:
        tangle, more = product_by_words(found[-1], hook_by_words(size, which))
        found.append(tangle)
        rounds_left += more
    return tuple(found), rounds_left


def is_word(tangle, told):
    for which in several(told, 0, 60):
        number(which, 0, len(tangle) // 2 - 2)
    found, left = tangles_by_words(len(tangle) // 2, told)
    return found[-1] == tangle and left == 0


def word(certificate, tangle, told):
    row(tangle, 1)
    return is_word(tangle, told) and same(certificate, tangles_by_words(len(tangle) // 2, told)[0])


known_words = lru_cache(None)(words_by_search)


def least(certificate, tangle, many):
    need(len(row(tangle, 1)) <= 12)
    found = known_words(len(tangle) // 2)[tangle]
    return same(many, len(found)) and is_word(tangle, certificate) and len(certificate) == many


def folding(certificate, layers):
    need(crossing_by_words(order(layers, 1, 8)) is None)
    found = []
    for first in (0, 1):
        side = ["."] * len(layers)
        for crease in range(first, len(layers) - 1, 2):
            top, bottom = crease_by_words(layers, crease)
            side[top], side[bottom] = "()"
        found.append("".join(side))
    return same(certificate, tuple(found))


def crossing(certificate, layers):
    order(layers, 1, 8)
    creases = range(len(layers) - 1)
    return any(same(certificate, (one, other)) for one in creases for other in creases
               if one < other and (other - one) % 2 == 0
               and cross(crease_by_words(layers, one), crease_by_words(layers, other)))


def marked(certificate, marks, layers):
    need(crossing_by_words(order(layers, 1, 8)) is None)
    return same(marks, marks_by_words(layers)) and same(certificate, ())


def folds(certificate, lengths, marks):
    strip(lengths, marks)
    order(certificate, len(lengths), len(lengths))
    return is_layering_by_words(lengths, certificate) and marks_by_words(certificate) == marks


def stuck(certificate, lengths, marks):
    strip(lengths, marks)
    for step in several(certificate, 0, 8):
        able = [one for one in steps_by_words(lengths, marks) if same(step, one)]
        need(able)
        lengths, marks = behind_by_words(lengths, marks, able[0])
    return len(lengths) > 1 and steps_by_words(lengths, marks) == ()


@lru_cache(None)
def marks_of_ways(ways):
    return marks_by_words(folded(ways))


def halved(certificate, marks, ways):
    text(ways, "ou", 1, 10)
    return same(marks, marks_of_ways(ways)) and same(certificate, ())


def not_halved(certificate, marks):
    need(len(text(marks, "mv", 1, 1023)) in [2 ** many - 1 for many in range(1, 11)])
    one, other = several(certificate, 2, 2)
    number(one, 1, len(marks))
    number(other, one + 1, len(marks))
    if one & -one != other & -other:
        return False
    # Of one fold are places an odd number of times a power of 2 away from one another, or an even one.
    is_alike = marks[one - 1] == marks[other - 1]
    return is_alike == ((other - one) // (one & -one) // 2 % 2 == 1)


def fraction_by_words(lead, loop):
    """x is p + q times what x becomes; behind the loop this is x again."""
    p, q = Fraction(0), Fraction(1)
    for letter in loop:
        p, q = (p, q / 2) if letter == "l" else (p + q, -q / 2)
    x = p / (1 - q)
    for letter in lead[::-1]:
        x = x / 2 if letter == "l" else 1 - x / 2
    return x


def course_claim(certificate, fraction, lead, loop):
    course((lead, loop))
    found = [fraction_by_words(lead, loop)]
    for letter in lead + loop:
        found.append(moved(found[-1], letter))
    found = tuple(map(as_pair, found))
    return same(fraction, found[0]) and same(certificate, found)


def greater(certificate, one, other):
    course(one)
    course(other)
    one, other = row_of(one), row_of(other)
    if not is_less_by_words(other, one):
        return False
    return same(certificate, next(at for at in range(len(one)) if one[at] != other[at]))


known_decks = lru_cache(None)(decks_by_words)


def card(certificate, shuffle, size, place, times, end):
    need(type(shuffle) is str and shuffle in ("out", "in", "fold"))
    need(number(size, 2, 10 ** 6) % 2 == 0)
    number(place, 0, size - 1)
    number(times, 0, 10 ** 30)
    decks = known_decks(shuffle, size)
    return same(end, decks[times % len(decks)].index(place)) and same(certificate, ())


def clues(told, pairs, piece, other):
    text(told, "mv?", 0, 6)
    for pair in several(pairs, 0, 10) + ((piece, other),):
        for one in several(pair, 2, 2):
            number(one, 0, len(told))
        need(pair[0] != pair[1])
    return fitting_by_words(told, pairs)


def surely(certificate, told, pairs, piece, other):
    found = clues(told, pairs, piece, other)
    need(found)
    return all(one.index(piece) < one.index(other) for one in found) and same(certificate, ())


def perhaps_not(certificate, told, pairs, piece, other):
    found = clues(told, pairs, piece, other)
    return any(same(certificate, one) for one in found if one.index(piece) > one.index(other))


RIGHT = {
    "rounds": rounds, "river": river, "no river": no_river, "word": word, "least": least,
    "folding": folding, "crossing": crossing, "marked": marked, "folds": folds, "stuck": stuck,
    "halved": halved, "not halved": not_halved, "course": course_claim, "greater": greater,
    "card": card, "surely": surely, "perhaps not": perhaps_not,
}


def is_right(claim, certificate):
    """Whether this is a claim, and its certificate shows it."""
    try:
        need(type(claim) is tuple and claim and type(claim[0]) is str and claim[0] in RIGHT)
        act = RIGHT[claim[0]]
        need(len(claim) == act.__code__.co_argcount)
        return bool(act(certificate, *claim[1:]))
    except (NoClaim, ValueError):
        # A ValueError comes of taking apart what has another number of elements.
        return False


def bent_text(value):
    yield from ("", value + " ", value[:-1], value + value[-1:], value[1:], value[::-1], tuple(value),
                value.upper(), value * 2, [value], (value,), None, 0, value.encode())
    signs = "()mv?lrou"
    for at in range(len(value)):
        # In long texts some places do.
        if len(value) < 12 or at % 7 == 3:
            beside = signs[(signs.find(value[at]) ^ 1) % len(signs)]
            yield value[:at] + beside + value[at + 1:]
            if at and value[at] != value[at - 1]:
                yield value[:at - 1] + value[at] + value[at - 1] + value[at + 1:]


def bent_number(value):
    yield from (value + 1, value - 1, value + 2, -value, 2 * value, str(value), (value,), None,
                value + 10 ** 59, bool(value), [value])


def bent_tuple(value):
    yield from (list(value), value[:-1], value[1:], value + (0,), value + (None,), (value,), None,
                value + value, value[::-1], str(value), {}, set(), frozenset())
    for at, one in enumerate(value):
        yield value[:at] + (one, one) + value[at + 1:]
        yield value[:at] + value[at + 1:]
        if at:
            yield value[:at - 1] + (value[at], value[at - 1]) + value[at + 1:]
        for other in bent(one):
            yield value[:at] + (other,) + value[at + 1:]


def bent(value):
    """Values much like this one, most of them of another shape or about something else."""
    if type(value) is str:
        return bent_text(value)
    if type(value) is int:
        return bent_number(value)
    return bent_tuple(value) if type(value) is tuple else iter(())


SMALL_PAPERS = (
    (("rounds", "(())", "()()", 1), ((0, 1, 2, 3),)),
    (("rounds", "()()", "()()", 2), ((0, 1), (2, 3))),
    (("rounds", "", "", 0), ()),
    (("rounds", "(()())()", "()(())()", 3), ((0, 1, 2, 5), (3, 4), (6, 7))),
    (("river", (0, 3, 2, 1)), ("(())", "()()")),
    (("river", (0, 1)), ("()", "()")),
    (("no river", (0, 2, 1, 3)), ((0, 2), (1, 3))),
    (("no river", (0, 1, 3, 5, 4, 2)), ((2, 4), (3, 5))),
    (("word", "(())()", (1, 0)), ("((()))", "(()())", "(())()")),
    (("word", "()", ()), ("()",)),
    (("word", "()()()", (0, 1, 0)), ("((()))", "()()()", "()(())", "()()()")),
    (("least", "(())()", 2), (1, 0)),
    (("least", "((()))", 0), ()),
    (("least", "()()()()", 2), (0, 2)),
    (("folding", (1, 2, 3, 0)), ("(())", "()..")),
    (("folding", (0,)), (".", ".")),
    (("crossing", (0, 2, 1, 3)), (0, 2)),
    (("crossing", (0, 2, 4, 1, 3)), (1, 3)),
    (("marked", "vvm", (1, 2, 3, 0)), ()),
    (("marked", "", (0,)), ()),
    (("folds", (3, 1, 3), "vm"), (2, 1, 0)),
    (("folds", (2, 1, 1), "mm"), (0, 2, 1)),
    (("folds", (5,), ""), (0,)),
    (("stuck", (3, 1, 3), "vv"), ()),
    (("stuck", (3, 1, 3, 2), "vvv"), (("end", 1),)),
    (("stuck", (2, 3, 1, 3, 2), "vmmv"), (("end", 0), ("end", 1))),
    (("halved", "vvm", "oo"), ()),
    (("halved", "m", "u"), ()),
    (("halved", "mvvmmmv", "uou"), ()),
    (("not halved", "vvv"), (1, 3)),
    (("not halved", "vvmvvvm"), (2, 6)),
    (("course", (3, 10), "lr", "rl"), ((3, 10), (3, 5), (4, 5), (2, 5), (4, 5))),
    (("course", (0, 1), "", "l"), ((0, 1), (0, 1))),
    (("course", (1, 2), "lr", "l"), ((1, 2), (1, 1), (0, 1), (0, 1))),
    (("course", (1, 1), "r", "l"), ((1, 1), (0, 1), (0, 1))),
    (("greater", ("", "rl"), ("", "r")), 1),
    (("greater", ("rl", "lr"), ("rr", "l")), 1),
    (("greater", ("", "r"), ("l", "r")), 0),
    (("card", "fold", 8, 3, 1, 6), ()),
    (("card", "out", 2, 0, 0, 0), ()),
    (("card", "in", 10, 7, 10 ** 30, 7), ()),
    (("surely", "v?", ((2, 0),), 1, 0), ()),
    (("surely", "?", ((0, 1),), 0, 1), ()),
    (("perhaps not", "v?", ((2, 0),), 2, 1), (1, 2, 0)),
    (("perhaps not", "?", (), 1, 0), (0, 1)),
)
