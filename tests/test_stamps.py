"""Stamps: the foldings of a strip of pieces of one length."""

import unittest
from itertools import permutations, product
from random import Random

from foldworld import stamps as module
from foldworld.errors import InvalidLayers, InvalidMarks, InvalidNumber, Refused
from foldworld.rivers import count_rivers
from foldworld.stamps import (
    all_foldings, count_foldings, count_ring_foldings, count_topped, count_with, crossing,
    foldings_with, is_folding, is_ring_folding, marks_of, sides, sure_pairs, topped)
from tests.support import Caller, cross
from tests.wrong import ALIKE, LARGE, ODD_KINDS, Signatures, deep, indexes, number, values

COUNTS = (1, 2, 6, 16, 50, 144, 462, 1392)


def crease_by_words(layers, crease):
    """The places of the two pieces of a crease."""
    return tuple(sorted((layers.index(crease), layers.index(crease + 1))))


def crossing_by_words(layers):
    """The first pair of creases on one side that cross."""
    creases = range(len(layers) - 1)
    found = [(one, other) for one in creases for other in creases
             if one < other and one % 2 == other % 2
             and cross(crease_by_words(layers, one), crease_by_words(layers, other))]
    return min(found, default=None)


def marks_by_words(layers):
    marks = ""
    for crease in range(len(layers) - 1):
        is_above = layers.index(crease + 1) < layers.index(crease)
        is_valley = is_above if crease % 2 == 0 else not is_above
        marks += "v" if is_valley else "m"
    return marks


def foldings_by_words(many):
    """All foldings, out of all piles."""
    return tuple(layers for layers in permutations(range(many)) if crossing_by_words(layers) is None)


def is_ring_by_words(layers):
    many = len(layers)
    if many % 2 == 1 or crossing_by_words(layers) is not None:
        return False
    left = [crease_by_words(layers, crease) for crease in range(1, many - 1, 2)]
    ring = tuple(sorted((layers.index(many - 1), layers.index(0))))
    return not any(cross(ring, one) for one in left)


BY_WORDS = {many: foldings_by_words(many) for many in range(1, 7)}


def drawn_layers(seed, pieces, many):
    draw = Random(seed)
    return [tuple(draw.sample(range(pieces), pieces)) for _ in range(many)]


class TestLists(unittest.TestCase):
    def test_all_foldings(self):
        for many in range(1, 8):
            found = all_foldings(many)
            self.assertIs(type(found), tuple)
            self.assertEqual(len(found), COUNTS[many - 1])
            self.assertEqual(list(found), sorted(set(found)))
            self.assertTrue(all(type(layers) is tuple for layers in found))
            if many < 7:
                self.assertEqual(found, BY_WORDS[many])
            for layers in found:
                self.assertIs(is_folding(layers), True)

    def test_count_foldings(self):
        self.assertEqual(tuple(count_foldings(many) for many in range(1, 9)), COUNTS)
        self.assertIs(type(count_foldings(8)), int)

    def test_count_topped_for_each_piece(self):
        for many in range(1, 9):
            for piece in range(many):
                self.assertEqual(count_topped(many, piece), COUNTS[many - 1] // many)
                if many < 7:
                    wanted = sum(layers[0] == piece for layers in BY_WORDS[many])
                    self.assertEqual(count_topped(many, piece), wanted)

    def test_counts_are_those_of_the_lists_for_seven_and_eight_pieces(self):
        eight = [layers for signs in product("mv", repeat=7) for layers in foldings_with("".join(signs))]
        for many, found in ((7, all_foldings(7)), (8, eight)):
            self.assertEqual(count_foldings(many), len(set(found)))
            for piece in range(many):
                wanted = [layers for layers in found if layers[0] == piece]
                self.assertEqual(count_topped(many, piece), len(wanted))
        self.assertEqual(count_ring_foldings(8), sum(map(is_ring_by_words, eight)))


class TestFoldings(Caller):
    def test_all_layers_of_up_to_six_pieces(self):
        for many in range(1, 7):
            for layers in permutations(range(many)):
                wanted = crossing_by_words(layers)
                self.assertEqual(crossing(layers), wanted)
                self.assertIs(is_folding(layers), wanted is None)
                self.assertIs(is_ring_folding(layers), is_ring_by_words(layers))

    def test_drawn_layers_of_seven_and_eight_pieces(self):
        for layers in drawn_layers(21, 7, 400) + drawn_layers(22, 8, 400):
            wanted = crossing_by_words(layers)
            self.assertEqual(crossing(layers), wanted)
            self.assertIs(is_folding(layers), wanted is None)
            self.assertIs(is_ring_folding(layers), is_ring_by_words(layers))

    def test_what_is_no_folding_is_refused(self):
        for many in range(1, 6):
            for layers in permutations(range(many)):
                if layers not in BY_WORDS[many]:
                    for act in (marks_of, sides, topped):
                        self.check_error(Refused, ("value", layers), act, layers)

    def test_marks_of(self):
        for many in range(1, 8):
            for layers in all_foldings(many):
                self.assertEqual(marks_of(layers), marks_by_words(layers))

    def test_sides(self):
        for many in range(1, 8):
            for layers in all_foldings(many):
                found = sides(layers)
                self.assertIs(type(found), tuple)
                for first, side in enumerate(found):
                    wanted = ["."] * many
                    for crease in range(first, many - 1, 2):
                        top, bottom = crease_by_words(layers, crease)
                        wanted[top], wanted[bottom] = "(", ")"
                    self.assertEqual(side, "".join(wanted))

    def test_topped(self):
        for many in range(1, 8):
            for layers in all_foldings(many):
                self.assertEqual(topped(layers), layers[1:] + layers[:1])
                self.assertIs(is_folding(topped(layers)), True)

    def test_one_piece(self):
        self.assertEqual((is_folding((0,)), crossing((0,)), marks_of((0,))), (True, None, ""))
        self.assertEqual((sides((0,)), topped((0,))), ((".", "."), (0,)))
        self.assertIs(is_ring_folding((0,)), False)

    def test_the_examples_of_the_document(self):
        self.assertEqual(count_foldings(6), 144)
        self.assertEqual((is_folding((0, 2, 1, 3)), crossing((0, 2, 1, 3))), (False, (0, 2)))
        self.assertEqual(marks_of((1, 2, 3, 0)), "vvm")
        self.assertEqual(sides((1, 2, 3, 0)), ("(())", "().."))


class TestMarks(unittest.TestCase):
    def check_marks(self, marks, foldings):
        found = foldings_with(marks)
        wanted = tuple(layers for layers in foldings if marks_by_words(layers) == marks)
        self.assertEqual(found, wanted)
        self.assertIs(type(found), tuple)
        self.assertEqual(count_with(marks), len(wanted))
        self.assertGreater(len(wanted), 0)
        pieces = range(len(marks) + 1)
        self.assertEqual(sure_pairs(marks), tuple(
            (one, other) for one in pieces for other in pieces if one != other
            and all(layers.index(one) < layers.index(other) for layers in wanted)))

    def test_all_marks_of_up_to_five_creases(self):
        for many in range(6):
            for signs in product("mv", repeat=many):
                self.check_marks("".join(signs), BY_WORDS[many + 1])

    def test_six_creases(self):
        for signs in product("mv", repeat=6):
            self.check_marks("".join(signs), all_foldings(7))

    def test_seven_creases(self):
        found = [foldings_with("".join(signs)) for signs in product("mv", repeat=7)]
        self.assertEqual(sum(map(len, found)), COUNTS[7])
        self.assertEqual(len({layers for some in found for layers in some}), COUNTS[7])
        for some, signs in zip(found, product("mv", repeat=7)):
            self.assertEqual(list(some), sorted(some))
            for layers in some:
                self.assertEqual(marks_of(layers), "".join(signs))

    def test_sure_pairs_of_some_marks(self):
        self.assertEqual(sure_pairs(""), ())
        self.assertEqual(sure_pairs("v"), ((1, 0),))
        self.assertEqual(sure_pairs("m"), ((0, 1),))
        # The last piece is either tucked in between the others or laid above them.
        self.assertEqual(foldings_with("mm"), ((0, 2, 1), (2, 0, 1)))
        self.assertEqual(sure_pairs("mm"), ((0, 1), (2, 1)))


class TestRings(unittest.TestCase):
    def test_count_ring_foldings(self):
        for many in (2, 4, 6):
            self.assertEqual(count_ring_foldings(many), sum(map(is_ring_by_words, BY_WORDS[many])))
        for many in (2, 4, 6, 8):
            self.assertEqual(count_ring_foldings(many), many * count_rivers(many // 2))
        self.assertEqual([count_ring_foldings(many) for many in (2, 4, 6, 8)], [2, 8, 48, 336])

    def test_no_error_for_what_is_no_folding(self):
        self.assertIs(is_ring_folding((0, 2, 1, 3)), False)
        self.assertIs(is_ring_folding((0, 1, 2)), False)
        self.assertIs(is_ring_folding((0, 2, 4, 1, 3)), False)

    def test_a_folding_whose_ring_crease_crosses(self):
        rings = [layers for layers in BY_WORDS[4] if not is_ring_by_words(layers)]
        self.assertEqual(len(rings), 8)
        for layers in rings:
            self.assertIs(is_ring_folding(layers), False)


NO_LAYERS = (
    (((), None), ([0], None), ([0, 1], None), ("01", None), (None, None), (True, None), (0, None),
     ({0: 0}, None), (range(3), None), (tuple(range(9)), None), ((None,) * 9, None),
     ((0,) * 100, None))
    + (((1,), 0), ((-1,), 0), ((True,), 0), ((False,), 0), (("0",), 0), ((None,), 0),
       (((0,),), 0), (([0],), 0), ((0, 0), 1), ((0, 2), 1), ((0, 1, 3), 2), ((0, 1, 1, 9), 2),
       ((1, 0, True), 2), ((2, 2, 2), 1), ((3, 0, 1), 0), ((0, 10 ** 59), 1), (deep(1), 0),
       (tuple(range(7)) + (8,), 7), (tuple(range(7)) + (0,), 7), ((0, 2, 1, 3, 4, 5, 7, -1), 7), ((0, ALIKE), 1))
)
NO_MARKS = ("x", "M", "V", "mv ", " mv", "m?", "?", "o", "mm\n", "m" * 8, "v" * 9, "m" * 4000,
            "\uff4d", 0, 1, LARGE, ("m",), ["m", "v"], {"m": 1})


class TestWrong(Signatures, Caller):
    module = module
    layers = ("layers", (1, 2, 3, 0), indexes(InvalidLayers, NO_LAYERS))
    marks = ("marks", "vvm", values(InvalidMarks, NO_MARKS + tuple(
        value for value in ODD_KINDS if type(value) is not str or value not in ("m", "v"))))
    table = {
        "count_foldings": (number("number", 3, 1, 8),),
        "all_foldings": (number("number", 3, 1, 7),),
        "count_topped": (number("number", 4, 1, 8), number("piece", 2, 0, 3)),
        "is_folding": (layers,),
        "crossing": (layers,),
        "marks_of": (layers,),
        "sides": (layers,),
        "topped": (layers,),
        "foldings_with": (marks,),
        "count_with": (marks,),
        "sure_pairs": (marks,),
        "is_ring_folding": (layers,),
        "count_ring_foldings": (number("number", 4, 1, 8),),
    }

    def test_no_tuples(self):
        for name, act, told in self.each():
            if told[0] is self.layers:
                for value in ODD_KINDS:
                    if type(value) is not tuple:
                        self.check_error(InvalidLayers, ("index", None), act, value)

    def test_odd_numbers_have_no_rings(self):
        for value in (1, 3, 5, 7, 9, 0, -2, 10):
            self.check_error(InvalidNumber, ("value", value), count_ring_foldings, value)

    def test_a_piece_for_each_number(self):
        for many in range(1, 9):
            for piece in (-1, many, many + 1, True, False, None):
                self.check_error(InvalidNumber, ("value", piece), count_topped, many, piece)

    def test_refused_is_looked_for_at_last(self):
        for act in (marks_of, sides, topped):
            self.check_error(Refused, ("value", (0, 2, 1, 3)), act, (0, 2, 1, 3))
            self.check_error(InvalidLayers, ("index", 3), act, (0, 2, 1, 4))

    def test_eight_pieces_are_let_in(self):
        layers = (1, 3, 5, 7, 6, 4, 2, 0)
        self.assertEqual(crossing(layers), crossing_by_words(layers))
        self.assertIs(is_folding(tuple(range(8))), True)


if __name__ == "__main__":
    unittest.main()
