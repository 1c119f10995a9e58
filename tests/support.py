"""What several tests use: rows reckoned from the words of the document alone, and wrong values."""

from functools import lru_cache
from itertools import combinations, product
from random import Random
from unittest import TestCase

# Values that are neither numbers nor arch rows.
OTHER_KINDS = (
    True, False, None, "0", "1", "(", "()x", b"", b"()", (), (1,), ("()",), [], [1], ["()"],
    {}, {1: 2}, set(), object(), int, 1j, range(3),
)

NO_ROWS = (
    "(", ")", ")(", "())", "(()", "())(", "()(", ")()(", "())(()", " ()", "() ", "( )", "()\n",
    "[]", "(]", "()a", "0", "\uff08\uff09", "(" * 13 + ")" * 13, "()" * 13, "()" * 12 + "(",
    "(" * 24, "(" * 4000, "()" * 2000, "()" * 12 + "[]",
)


class Caller(TestCase):
    """A test that looks at errors and what they hold."""

    def check_error(self, error, held, act, *told, **named):
        """The call raises just this error, and its one attribute is the very value."""
        name, value = held
        with self.assertRaises(error) as caught:
            act(*told, **named)
        self.assertIs(type(caught.exception), error)
        self.assertEqual(list(vars(caught.exception)), [name])
        found = getattr(caught.exception, name)
        if name == "value":
            self.assertIs(found, value)
        else:
            self.assertIs(type(found), type(value))
            self.assertEqual(found, value)


def is_row_by_words(text):
    """As many of both signs, and no beginning with more ")" than "("."""
    if any(sign not in "()" for sign in text) or text.count("(") != text.count(")"):
        return False
    return all(text[:end].count(")") <= text[:end].count("(") for end in range(len(text) + 1))


def rows_by_words(number):
    """All arch rows, out of all strings of the two signs."""
    strings = ("".join(signs) for signs in product("()", repeat=2 * number))
    return tuple(sorted(text for text in strings if is_row_by_words(text)))


def rows_by_blocks(number):
    """All arch rows, each made of a first block and the row behind it; also for twelve arches."""
    known = [[""]]
    for many in range(1, number + 1):
        known.append([
            f"({inner}){rest}"
            for inside in range(many)
            for inner in known[inside]
            for rest in known[many - 1 - inside]
        ])
    return sorted(known[number])


def mate_by_words(row, foot):
    """The other foot, such that the string between both is an arch row."""
    for other in range(len(row)):
        low, high = min(foot, other), max(foot, other)
        if row[low] == "(" and row[high] == ")" and is_row_by_words(row[low + 1:high]):
            return other
    raise AssertionError((row, foot))


def arches_by_words(row):
    """The ascending list of the arches."""
    found = []
    for foot in range(len(row)):
        other = mate_by_words(row, foot)
        if foot < other:
            found.append((foot, other))
    return found


def row_with_arches(found):
    """The signs that these arches make."""
    signs = {}
    for low, high in found:
        signs[low] = "("
        signs[high] = ")"
    return "".join(signs[foot] for foot in range(len(signs)))


def exchanged_by_words(row, foot, other_foot):
    """The four feet joined otherwise, if an arch row with the same other arches comes; or None."""
    old = arches_by_words(row)
    one = next(arch for arch in old if foot in arch)
    two = next(arch for arch in old if other_foot in arch)
    if one == two:
        return None
    a, b, c, d = sorted(one + two)
    ways = [sorted([(a, b), (c, d)]), sorted([(a, d), (b, c)])]
    new = ways[1] if sorted([one, two]) == ways[0] else ways[0]
    wanted = sorted([arch for arch in old if arch not in (one, two)] + new)
    text = row_with_arches(wanted)
    return text if is_row_by_words(text) and arches_by_words(text) == wanted else None


@lru_cache(None)
def known_arches(row):
    """The arches, kept."""
    return tuple(arches_by_words(row))


def drawn_row(draw, number):
    """Some row with so many arches."""
    row = ""
    for _ in range(number):
        at = draw.randrange(len(row) + 1)
        row = f"{row[:at]}(){row[at:]}"
    return row


def drawn_rows(seed, number, many):
    """Some rows with so many arches, the same for the same seed."""
    draw = Random(seed)
    return [drawn_row(draw, number) for _ in range(many)]


def lots_joined(many, joins):
    """The lots of numbers below so many that are joined, each ascending, by their first numbers."""
    lots = [{number} for number in range(many)]
    for one, other in joins:
        first = next(lot for lot in lots if one in lot)
        second = next(lot for lot in lots if other in lot)
        if first is not second:
            lots.remove(second)
            first |= second
    return tuple(sorted(tuple(sorted(lot)) for lot in lots))


def rounds_by_words(upper, lower):
    """The lots of feet that are joined by arches."""
    return lots_joined(len(upper), known_arches(upper) + known_arches(lower))


def cross(arch, other_arch):
    """Whether two arches cross, by the words of the document."""
    (a, b), (c, d) = arch, other_arch
    return a < c < b < d or c < a < d < b


def any_cross(found):
    """Whether any two of these arches cross."""
    return any(cross(one, other) for one, other in combinations(found, 2))
