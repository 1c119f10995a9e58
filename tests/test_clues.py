"""Clues about foldings and spots of halves, against all that there are."""

import unittest
from itertools import combinations, product
from random import Random

from foldworld import clues as module
from foldworld.clues import (
    best_crease, count_ways, first_ways, fitting, sure_above, sure_marks, sure_ways)
from foldworld.errors import InvalidClues, InvalidNumber, InvalidPairs, InvalidSpots, NoFit
from foldworld.stamps import all_foldings, foldings_with, sure_pairs
from tests.support import Caller
from tests.test_halves import folded
from tests.test_stamps import BY_WORDS, marks_by_words
from tests.wrong import ALIKE, LARGE, ODD_KINDS, Signatures, deep, indexes, number, values

FOLDINGS = {**BY_WORDS, 7: all_foldings(7)}
MARKS = {layers: marks_by_words(layers) for found in FOLDINGS.values() for layers in found}


def fits(layers, told, pairs):
    """Whether a folding has the marks that are told, and the pairs are so."""
    return (all(sign in ("?", mark) for sign, mark in zip(told, MARKS[layers]))
            and all(layers.index(i) < layers.index(j) for i, j in pairs))


def fitting_by_words(told, pairs):
    return tuple(layers for layers in FOLDINGS[len(told) + 1] if fits(layers, told, pairs))


def all_told(most):
    return ["".join(signs) for many in range(most + 1) for signs in product("mv?", repeat=many)]


def drawn_pairs(draw, pieces, many):
    """Some pairs of pieces, none of one piece."""
    if pieces == 1:
        return ()
    return tuple(tuple(draw.sample(range(pieces), 2)) for _ in range(many))


def drawn_clues(seed, many):
    """Clues of five and six signs, with few marks and pairs, so that several fit."""
    draw = Random(seed)
    found = []
    for _ in range(many):
        creases = draw.choice((5, 6))
        told = "".join(draw.choice("mv??") for _ in range(creases))
        layers = draw.choice(FOLDINGS[creases + 1])
        pairs = drawn_pairs(draw, creases + 1, draw.randrange(4))
        if draw.random() < 0.5:
            # Pairs that one folding has, so that it fits if its marks do.
            pairs = tuple(pair if layers.index(pair[0]) < layers.index(pair[1]) else pair[::-1]
                          for pair in pairs)
            told = "".join(draw.choice((mark, "?")) for mark in MARKS[layers])
        found.append((told, pairs))
    return found


class CluesTest(Caller):
    def check_clues(self, told, pairs):
        found = fitting_by_words(told, pairs)
        self.assertEqual(fitting(told, pairs), found)
        self.assertIs(type(fitting(told, pairs)), tuple)
        if not found:
            self.check_none_fits(told, pairs)
            return False
        pieces = range(len(told) + 1)
        columns = [[MARKS[layers][crease] for layers in found] for crease in range(len(told))]
        self.assertEqual(sure_marks(told, pairs), "".join(
            signs[0] if len(set(signs)) == 1 else "?" for signs in columns))
        self.assertEqual(sure_above(told, pairs), tuple(
            (i, j) for i in pieces for j in pieces if i != j
            and all(layers.index(i) < layers.index(j) for layers in found)))
        if len({MARKS[layers] for layers in found}) == 1:
            self.assertIs(best_crease(told, pairs), None)
        else:
            worst = [max(signs.count("m"), signs.count("v")) for signs in columns]
            self.assertEqual(best_crease(told, pairs), worst.index(min(worst)))
        return True

    def check_none_fits(self, told, pairs):
        self.assertEqual(fitting(told, pairs), ())
        for act in (sure_marks, sure_above, best_crease):
            with self.assertRaises(NoFit) as caught:
                act(told, pairs)
            self.assertEqual(vars(caught.exception), {})


class TestClues(CluesTest):
    def test_all_signs_without_pairs(self):
        for told in all_told(4):
            self.assertIs(self.check_clues(told, ()), True)

    def test_all_signs_with_each_pair(self):
        for told in all_told(3):
            pieces = range(len(told) + 1)
            for i in pieces:
                for j in pieces:
                    if i != j:
                        self.check_clues(told, ((i, j),))

    def test_all_signs_with_drawn_pairs(self):
        draw = Random(71)
        seen = {self.check_clues(told, drawn_pairs(draw, len(told) + 1, many))
                for told in all_told(4) for many in (1, 2, 3, 10)}
        self.assertEqual(seen, {True, False})

    def test_five_and_six_signs(self):
        seen = [self.check_clues(told, pairs) for told, pairs in drawn_clues(72, 250)]
        self.assertGreater(sum(seen), 100)
        self.assertGreater(len(seen) - sum(seen), 10)

    def test_ten_pairs_of_seven_pieces(self):
        draw = Random(73)
        for layers in draw.sample(FOLDINGS[7], 30):
            pairs = draw.sample(list(combinations(layers, 2)), 10)
            self.assertIs(self.check_clues("??????", tuple(pairs)), True)
        # With one pair the other way round nothing fits any more.
        self.assertIs(self.check_clues("??????", tuple(pairs[:9]) + (pairs[0][::-1],)), False)

    def test_without_any_clue_all_foldings_fit(self):
        for many in range(7):
            self.assertEqual(fitting("?" * many, ()), FOLDINGS[many + 1])

    def test_with_all_marks_those_of_stamps_fit(self):
        for many in range(7):
            for signs in product("mv", repeat=many):
                marks = "".join(signs)
                self.assertEqual(fitting(marks, ()), foldings_with(marks))
                self.assertEqual(sure_above(marks, ()), sure_pairs(marks))
                self.assertEqual(sure_marks(marks, ()), marks)
                self.assertIs(best_crease(marks, ()), None)

    def test_one_piece(self):
        self.assertEqual((fitting("", ()), sure_marks("", ())), (((0,),), ""))
        self.assertEqual((sure_above("", ()), best_crease("", ())), ((), None))

    def test_a_pair_and_its_other_way_round(self):
        for told in ("?", "m", "??", "v?m?"):
            self.check_none_fits(told, ((0, 1), (1, 0)))
        self.check_none_fits("???", ((0, 1), (1, 2), (2, 0)))
        self.check_none_fits("v", ((0, 1),))
        self.assertEqual(fitting("?", ((0, 1), (0, 1))), ((0, 1),))

    def test_the_first_of_several_best_creases(self):
        # Without any clue each crease is as often a mountain as a valley.
        for many in range(1, 7):
            self.assertEqual(best_crease("?" * many, ()), 0)
        # What is told of a pair makes other creases unlike.
        self.assertEqual([best_crease("????", ((0, i),)) for i in (1, 2, 3, 4)], [2, 3, 1, 1])


def marks_by_folding(ways):
    """The marks of all places of halves, out of the folded layers."""
    return marks_by_words(folded(ways))


class TestSpots(Caller):
    def check_none_fits(self, many, spots):
        self.assertEqual(count_ways(many, spots), 0)
        for act in (sure_ways, first_ways):
            with self.assertRaises(NoFit) as caught:
                act(many, spots)
            self.assertEqual(vars(caught.exception), {})

    def check_spots(self, many, spots, all_marks):
        found = [ways for ways in sorted(all_marks)
                 if all(all_marks[ways][place - 1] == mark for place, mark in spots)]
        self.assertEqual(count_ways(many, spots), len(found))
        if not found:
            self.check_none_fits(many, spots)
            return False
        self.assertEqual(first_ways(many, spots), found[0])
        self.assertEqual(sure_ways(many, spots), "".join(
            signs[0] if len(set(signs)) == 1 else "?" for signs in zip(*found)))
        return True

    def test_drawn_spots_of_up_to_four_folds(self):
        draw = Random(74)
        seen = []
        for many in range(1, 5):
            all_marks = {"".join(told): marks_by_folding("".join(told))
                         for told in product("ou", repeat=many)}
            for _ in range(400):
                marks = draw.choice(list(all_marks.values()))
                spots = []
                for _ in range(draw.randrange(6)):
                    place = draw.randrange(1, 2 ** many)
                    mark = marks[place - 1] if draw.random() < 0.85 else draw.choice("mv")
                    spots.append((place, mark))
                seen.append(self.check_spots(many, tuple(spots), all_marks))
            for place in range(1, 2 ** many):
                for mark in "mv":
                    self.assertIs(self.check_spots(many, ((place, mark),), all_marks), True)
        self.assertEqual(set(seen), {True, False})

    def test_no_spots(self):
        for many in (1, 2, 50, 100):
            self.assertEqual(count_ways(many, ()), 2 ** many)
            self.assertEqual((sure_ways(many, ()), first_ways(many, ())), ("?" * many, "o" * many))

    def test_a_hundred_folds_one_by_one(self):
        draw = Random(75)
        for fold in range(100):
            shift = 99 - fold
            place = (2 * draw.randrange(2 ** fold) + 1) << shift
            for mark in "mv":
                is_over = (mark == "v") == ((place >> shift) % 4 == 1)
                way = "o" if is_over else "u"
                spots = ((place, mark),)
                self.assertEqual(count_ways(100, spots), 2 ** 99)
                self.assertEqual(sure_ways(100, spots), "?" * fold + way + "?" * shift)
                self.assertEqual(first_ways(100, spots), "o" * fold + way + "o" * shift)

    def test_a_hundred_folds_with_twenty_spots(self):
        draw = Random(76)
        for _ in range(40):
            ways = "".join(draw.choice("ou") for _ in range(100))
            folds = draw.sample(range(100), 15)
            folds += folds[:5]
            spots, told = [], ["?"] * 100
            for fold in folds:
                odd = 2 * draw.randrange(2 ** fold) + 1
                is_valley = (ways[fold] == "o") == (odd % 4 == 1)
                spots.append((odd << (99 - fold), "v" if is_valley else "m"))
                told[fold] = ways[fold]
            spots = tuple(spots)
            self.assertEqual(sure_ways(100, spots), "".join(told))
            self.assertEqual(first_ways(100, spots), "".join(told).replace("?", "o"))
            self.assertEqual(count_ways(100, spots), 2 ** 85)
            # One of two spots of one fold says the contrary.
            place, mark = spots[-1]
            self.check_none_fits(100, spots[:-1] + ((place, "m" if mark == "v" else "v"),))

    def test_two_spots_at_one_place(self):
        for many, place in ((1, 1), (3, 4), (3, 7), (100, 2 ** 99), (100, 2 ** 100 - 1)):
            self.check_none_fits(many, ((place, "m"), (place, "v")))
            self.assertEqual(count_ways(many, ((place, "m"), (place, "m"))), 2 ** (many - 1))

    def test_all_folds_told(self):
        spots = tuple((2 ** (19 - fold), "v") for fold in range(20))
        self.assertEqual((sure_ways(20, spots), first_ways(20, spots)), ("o" * 20, "o" * 20))
        self.assertEqual(count_ways(20, spots), 1)


NO_CLUES = ("x", "M", "m ", " v", "mv\n", "mvx", "o", "?" * 7, "m" * 8, "v" * 4000, "\uff1f", 0, 1,
            LARGE, ("m",), ["m", "v"], {"m": 1})
ODD_CLUES = tuple(value for value in ODD_KINDS if type(value) is not str)
NO_PAIRS = (
    (None, None), (True, None), (0, None), ("01", None), ("", None), ([], None), ([(0, 1)], None),
    ({}, None), ({(0, 1): 1}, None), (set(), None), (range(2), None), (ALIKE, None),
    ((0, 1), 0), (((0, 0),), 0), (((0, 4),), 0), (((4, 0),), 0), (((-1, 0),), 0), (((0, -1),), 0),
    (((True, 0),), 0), (((0, True),), 0), (((1, False),), 0), (((0, 1, 2),), 0), (((0,),), 0),
    (((),), 0), (([0, 1],), 0), (("01",), 0), ((None,), 0), (((0, None),), 0), (((0, "1"),), 0),
    (((0, (1,)),), 0), (({0, 1},), 0), (((ALIKE, 0),), 0), (((0, ALIKE),), 0), ((ALIKE,), 0),
    (((0, 10 ** 59),), 0), (deep(0), 0),
    (((0, 1), (1, 1)), 1), (((0, 1), [1, 2]), 1), (((0, 1), (1, 0), (2, 3), (3, 4)), 3),
    (((0, 1),) * 11, 10), (((0, 1),) * 10 + (None,), 10), (((0, 1),) * 9 + ((2, 2), (0, 1)), 9),
    (((0, 1),) * 4000, 10), (((0, 1), (9, 9)) + ((0, 1),) * 20, 1),
)
NO_SPOTS = (
    (None, None), (True, None), (1, None), ("1m", None), ([], None), ([(1, "m")], None), ({}, None),
    ({1: "m"}, None), (set(), None), (ALIKE, None),
    ((1, "m"), 0), (((0, "m"),), 0), (((8, "m"),), 0), (((-1, "m"),), 0), (((True, "m"),), 0),
    ((("1", "m"),), 0), (((None, "m"),), 0), (((1, "x"),), 0), (((1, "mv"),), 0), (((1, ""),), 0),
    (((1, "?"),), 0), (((1, "M"),), 0), (((1, None),), 0), (((1, 1),), 0), (((1, b"m"),), 0),
    (((1, ("m",)),), 0), (((1,),), 0), (((),), 0), (((1, "m", 1),), 0), (([1, "m"],), 0),
    (("1m",), 0), ((("m", 1),), 0), (((1, ALIKE),), 0), (((ALIKE, "m"),), 0), ((ALIKE,), 0),
    (((10 ** 59, "m"),), 0), (deep("m"), 0),
    (((1, "m"), (8, "v")), 1), (((1, "m"), (1, "v"), (2, "o")), 2), (((1, "m"), None), 1),
    (((1, "m"),) * 21, 20), (((1, "m"),) * 20 + (None,), 20),
    (((1, "m"),) * 19 + ((0, "m"), (1, "m")), 19), (((1, "m"),) * 4000, 20),
)


class TestWrong(Signatures, Caller):
    module = module
    told = ("told", "v??", values(InvalidClues, NO_CLUES + ODD_CLUES))
    pairs = ("pairs", ((0, 1), (2, 0)), indexes(InvalidPairs, NO_PAIRS))
    spots = ("spots", ((1, "m"), (4, "v")), indexes(InvalidSpots, NO_SPOTS))
    table = {
        "fitting": (told, ("pairs", ((1, 0),), pairs[2])),
        "sure_marks": (told, ("pairs", ((1, 0),), pairs[2])),
        "sure_above": (told, ("pairs", ((1, 0),), pairs[2])),
        "best_crease": (told, ("pairs", ((1, 0),), pairs[2])),
        "sure_ways": (number("number", 3, 1, 100), spots),
        "count_ways": (number("number", 3, 1, 100), spots),
        "first_ways": (number("number", 3, 1, 100), spots),
    }

    def test_what_is_no_tuple_at_all(self):
        for value in ODD_KINDS:
            if type(value) is not tuple:
                self.check_error(InvalidPairs, ("index", None), fitting, "??", value)
                self.check_error(InvalidSpots, ("index", None), count_ways, 2, value)

    def test_pieces_are_up_to_the_number_of_signs(self):
        for told in ("", "?", "m?", "??????"):
            many = len(told)
            for pair in ((many + 1, 0), (0, many + 1), (many, many), (-1, many)):
                self.check_error(InvalidPairs, ("index", 0), fitting, told, (pair,))
            if many:
                self.assertIs(type(fitting(told, ((many, 0),))), tuple)

    def test_places_of_spots_for_each_number_of_folds(self):
        for many in (1, 2, 99, 100):
            top = 2 ** many
            for place in (0, -1, top, top + 1, True):
                self.check_error(InvalidSpots, ("index", 0), sure_ways, many, ((place, "m"),))
            self.assertEqual(count_ways(many, ((top - 1, "m"),)), 2 ** (many - 1))

    def test_as_many_as_are_let_in(self):
        self.assertEqual(fitting("?", ((0, 1),) * 10), ((0, 1),))
        self.assertEqual(count_ways(1, ((1, "m"),) * 20), 1)

    def test_none_fits_is_looked_for_at_last(self):
        wrong = ((0, 1), (1, 0), (1, 1))
        for act in (sure_marks, sure_above, best_crease):
            self.check_error(InvalidPairs, ("index", 2), act, "??", wrong)
            self.check_error(InvalidClues, ("value", "?x"), act, "?x", wrong)
        spots = ((1, "m"), (1, "v"), (1, "x"))
        for act in (sure_ways, first_ways):
            self.check_error(InvalidSpots, ("index", 2), act, 2, spots)
            self.check_error(InvalidNumber, ("value", 101), act, 101, spots)


if __name__ == "__main__":
    unittest.main()
