"""Tangles, their products, and the words for them."""

import unittest
from itertools import product as all_tuples
from random import Random

from foldworld import tangles as module
from foldworld.errors import InvalidHooks, InvalidNumber, InvalidRow, Refused, TooMany, Unlike
from foldworld.rounds import count_rounds
from foldworld.tangles import (
    closed, flip, hook, least_word, made_of, product, strands, unit)
from tests.support import (
    Caller, drawn_row, drawn_rows, known_arches, lots_joined, row_with_arches, rounds_by_words,
    rows_by_blocks)
from tests.wrong import (
    ALIKE, ODD_KINDS, Signatures, deep, indexes, number, other_row, row, some_row)

SMALL = [rows_by_blocks(many) for many in range(6)]
ALL = [text for rows in SMALL for text in rows]
PAIRS = [(one, other) for rows in SMALL[:5] for one in rows for other in rows]
LARGE_PAIRS = list(zip(drawn_rows(11, 12, 60), drawn_rows(12, 12, 60)))
LARGE_PAIRS += list(zip(drawn_rows(13, 7, 60), drawn_rows(14, 7, 60)))


def foot_name(foot, size, level):
    """A foot as (level, number): the tops of a tangle stand on its level, the bottoms below."""
    return (level, foot) if foot < size else (level + 1, 2 * size - 1 - foot)


def text_of(pairs, size):
    """The tangle with these arches between (0, number), tops, and (1, number), bottoms."""
    place = {(0, k): k for k in range(size)} | {(1, k): 2 * size - 1 - k for k in range(size)}
    return row_with_arches([sorted(place[end] for end in pair) for pair in pairs])


def unit_by_words(size):
    return text_of([((0, k), (1, k)) for k in range(size)], size)


def hook_by_words(size, which):
    pairs = [((0, which), (0, which + 1)), ((1, which), (1, which + 1))]
    pairs += [((0, k), (1, k)) for k in range(size) if k not in (which, which + 1)]
    return text_of(pairs, size)


def product_by_words(one, other):
    """By following feet on three levels: those between are inner ones."""
    size = len(one) // 2
    joins = [tuple(foot_name(foot, size, level) for foot in arch)
             for level, text in enumerate((one, other)) for arch in known_arches(text)]
    names = [(level, k) for level in range(3) for k in range(size)]
    lots = lots_joined(len(names), [tuple(map(names.index, join)) for join in joins])
    pairs, many = [], 0
    for lot in lots:
        outer = [names[at] for at in lot if names[at][0] != 1]
        if outer:
            pairs.append([(level // 2, k) for level, k in outer])
        else:
            many += 1
    return text_of(pairs, size), many


def closed_by_words(text):
    size = len(text) // 2
    joins = list(known_arches(text)) + [(k, 2 * size - 1 - k) for k in range(size)]
    return len(lots_joined(2 * size, joins))


def words_by_search(size):
    """For each tangle the first of its shortest words, by going through all words in order."""
    many = len(rows_by_blocks(size))
    hooks = [hook_by_words(size, which) for which in range(size - 1)]
    level = {(): unit_by_words(size)}
    found = {}
    while True:
        for word in sorted(level):
            found.setdefault(level[word], word)
        if len(found) == many:
            return found
        # Words whose beginning is no shortest word for its tangle are no shortest words.
        further = {}
        for word, text in level.items():
            if len(word) == len(found[text]):
                for which, wanted in enumerate(hooks):
                    came, rounds = product_by_words(text, wanted)
                    if rounds == 0:
                        further[word + (which,)] = came
        level = further


class TestTangles(unittest.TestCase):
    def test_unit_and_hooks_of_all_sizes(self):
        for size in range(1, 13):
            self.assertEqual(unit(size), unit_by_words(size))
            for which in range(size - 1):
                self.assertEqual(hook(size, which), hook_by_words(size, which))

    def test_flip(self):
        for text in ALL + [one for one, _ in LARGE_PAIRS]:
            size = len(text) // 2
            turned = [[((1, k) if level == 0 else (0, k)) for level, k in
                       (foot_name(foot, size, 0) for foot in arch)] for arch in known_arches(text)]
            self.assertEqual(flip(text), text_of(turned, size))
            self.assertEqual(flip(flip(text)), text)

    def test_strands(self):
        for text in ALL + [one for one, _ in LARGE_PAIRS]:
            size = len(text) // 2
            wanted = sum(low < size <= high for low, high in known_arches(text))
            self.assertEqual(strands(text), wanted)
        self.assertEqual([strands(unit(size)) for size in (1, 7, 12)], [1, 7, 12])
        self.assertEqual([strands(hook(size, 0)) for size in (2, 7, 12)], [0, 5, 10])

    def test_the_empty_tangle(self):
        self.assertEqual((flip(""), strands(""), product("", "")), ("", 0, ("", 0)))


class TestProducts(unittest.TestCase):
    def test_products_against_following_feet(self):
        for one, other in PAIRS + LARGE_PAIRS:
            with self.subTest(one=one, other=other):
                found = product(one, other)
                self.assertEqual(found, product_by_words(one, other))
                self.assertIs(type(found), tuple)
                self.assertIs(type(found[1]), int)

    def test_hooks(self):
        for size in range(2, 13):
            for which in range(size - 1):
                same = hook(size, which)
                self.assertEqual(product(same, same), (same, 1))
                for other in range(size - 1):
                    near = hook(size, other)
                    if abs(which - other) == 1:
                        came, many = product(same, near)
                        self.assertEqual(many, 0)
                        self.assertEqual(product(came, same), (same, 0))
                    elif which != other:
                        self.assertEqual(product(same, near), product(near, same))
                        self.assertEqual(product(same, near)[1], 0)

    def test_the_unit_changes_nothing(self):
        for text in ALL[1:] + [one for one, _ in LARGE_PAIRS]:
            whole = unit(len(text) // 2)
            self.assertEqual(product(text, whole), (text, 0))
            self.assertEqual(product(whole, text), (text, 0))

    def test_three_tangles_put_together_either_way(self):
        draw = Random(15)
        for _ in range(200):
            size = draw.randrange(1, 13)
            one, two, three = [drawn_row(draw, size) for _ in range(3)]
            first, many = product(one, two)
            left, more = product(first, three)
            last, other_many = product(two, three)
            right, other_more = product(one, last)
            self.assertEqual((left, many + more), (right, other_many + other_more))

    def test_flips_of_products(self):
        for one, other in PAIRS + LARGE_PAIRS:
            came, many = product(one, other)
            self.assertEqual(product(flip(other), flip(one)), (flip(came), many))

    def test_no_more_strands_than_either(self):
        for one, other in PAIRS + LARGE_PAIRS:
            self.assertLessEqual(strands(product(one, other)[0]), min(strands(one), strands(other)))

    def test_closed(self):
        for text in ALL[1:] + [one for one, _ in LARGE_PAIRS]:
            whole = unit(len(text) // 2)
            self.assertEqual(closed(text), closed_by_words(text))
            self.assertEqual(closed(text), len(rounds_by_words(text, whole)))
        self.assertEqual([closed(unit(size)) for size in range(1, 13)], list(range(1, 13)))

    def test_rounds_of_two_rows_are_those_left_between_and_those_of_the_closing(self):
        for upper, lower in PAIRS + LARGE_PAIRS:
            if upper:
                came, many = product(upper, flip(lower))
                self.assertEqual(count_rounds(upper, lower), many + closed(came))


class TestWords(unittest.TestCase):
    def made_by_words(self, size, hooks):
        text, many = unit_by_words(size), 0
        for which in hooks:
            text, more = product_by_words(text, hook_by_words(size, which))
            many += more
        return text, many

    def test_made_of(self):
        for hooks in [()] + [told for many in range(1, 5) for told in all_tuples(range(3), repeat=many)]:
            self.assertEqual(made_of(4, hooks), self.made_by_words(4, hooks))
        draw = Random(16)
        for size in range(2, 13):
            for many in (1, 2, 7, 30, 59, 60):
                hooks = tuple(draw.randrange(size - 1) for _ in range(many))
                self.assertEqual(made_of(size, hooks), self.made_by_words(size, hooks))

    def test_made_of_none_one_and_sixty(self):
        for size in range(1, 13):
            self.assertEqual(made_of(size, ()), (unit(size), 0))
            for which in range(size - 1):
                self.assertEqual(made_of(size, (which,)), (hook(size, which), 0))
                self.assertEqual(made_of(size, (which,) * 60), (hook(size, which), 59))

    def test_least_words_of_all_tangles_of_up_to_five_arches(self):
        for size in range(1, 6):
            for text, word in words_by_search(size).items():
                self.assertEqual(least_word(text), word)
                self.assertIs(type(least_word(text)), tuple)

    def test_least_words_of_six_arches(self):
        known = words_by_search(6)
        self.assertEqual(len(known), 132)
        for text in rows_by_blocks(6)[::5]:
            self.assertEqual(least_word(text), known[text])

    def test_a_least_word_makes_the_tangle(self):
        for text in ALL[1:] + drawn_rows(17, 6, 30):
            self.assertEqual(made_of(len(text) // 2, least_word(text)), (text, 0))

    def test_no_word_of_up_to_six_hooks_is_less(self):
        for many in range(7):
            for hooks in all_tuples(range(3), repeat=many):
                text, rounds = made_of(4, hooks)
                if rounds == 0:
                    word = least_word(text)
                    self.assertLessEqual((len(word), word), (len(hooks), hooks))

    def test_the_examples_of_the_document(self):
        self.assertEqual((unit(3), hook(3, 0)), ("((()))", "()()()"))
        self.assertEqual(product(hook(3, 0), hook(3, 0)), ("()()()", 1))
        self.assertEqual(product(hook(3, 0), hook(3, 1)), ("()(())", 0))
        self.assertEqual(least_word("(())()"), (1, 0))
        self.assertEqual((closed(unit(3)), closed(hook(3, 1))), (3, 2))


NO_HOOKS = (
    (([0], None), ([], None), ("01", None), ("", None), (None, None), (True, None), (0, None),
     ({}, None), (range(2), None))
    + (((True,), 0), ((0, False), 1), ((3,), 0), ((-1,), 0), ((0, 2, 1, 3), 3), ((0, "1"), 1),
       ((None,), 0), (((0,),), 0), ((0, [1]), 1), ((0, 10 ** 59), 1), ((2, 3, -1), 1),
       (deep(1), 0), ((0,) * 61, 60), ((0,) * 62, 60), ((0,) * 60 + (9,), 60),
       ((0,) * 59 + (3, 0, 0), 59), ((0,) * 60 + (None, None), 60), ((3,) * 100, 0),
       ((ALIKE,), 0), ((0, ALIKE), 1))
)


class TestWrong(Signatures, Caller):
    module = module
    size = number("size", 5, 1, 12)
    table = {
        "unit": (size,),
        "hook": (size, number("number", 2, 0, 3)),
        "flip": (row("tangle", "(())"),),
        "strands": (row("tangle", "(())"),),
        "product": (row("tangle", "(())"), other_row("other_tangle", "()()")),
        "closed": (some_row("tangle", "(())"),),
        "made_of": (size, ("hooks", (0, 1, 2), indexes(InvalidHooks, NO_HOOKS[:9]))),
        "least_word": (some_row("tangle", "(())"),),
    }

    def test_wrong_hooks(self):
        for value, index in NO_HOOKS:
            self.check_error(InvalidHooks, ("index", index), made_of, 4, value)
        for value in ODD_KINDS:
            if type(value) is not tuple:
                self.check_error(InvalidHooks, ("index", None), made_of, 4, value)

    def test_size_one_has_no_hooks(self):
        for value in (0, -1, 1, True, False):
            self.check_error(InvalidNumber, ("value", value), hook, 1, value)
            self.check_error(InvalidHooks, ("index", 0), made_of, 1, (value,))
        self.assertEqual(made_of(1, ()), ("()", 0))

    def test_the_last_hook_of_each_size(self):
        for size in range(2, 13):
            self.assertEqual(strands(hook(size, size - 2)), size - 2)
            self.check_error(InvalidHooks, ("index", 1), made_of, size, (0, size - 1))

    def test_too_many_is_looked_for_at_last(self):
        for size in range(7, 13):
            self.check_error(TooMany, ("limit", 6), least_word, unit(size))
        self.assertEqual(least_word(unit(6)), ())
        self.check_error(InvalidRow, ("value", "()" * 13), least_word, "()" * 13)

    def test_the_empty_tangle_is_refused_by_some(self):
        for act in (closed, least_word):
            self.check_error(Refused, ("value", ""), act, "")

    def test_unlike_is_behind_the_errors_of_both(self):
        self.check_error(InvalidRow, ("value", ")("), product, "()()", ")(")
        self.check_error(Unlike, ("value", "()"), product, "", "()")
        self.check_error(Unlike, ("value", ""), product, "()", "")


if __name__ == "__main__":
    unittest.main()
