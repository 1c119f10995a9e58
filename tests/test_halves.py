"""A strip folded in halves, and the walk that it is when opened."""

import unittest
from itertools import product
from random import Random

from foldworld import halves as module
from foldworld.errors import InvalidMarks, InvalidNumber, InvalidPlace, InvalidWays, TooMany
from foldworld.halves import (
    all_points, count_valleys, is_halved_word, layer_of, layers_of, mark_at, marks, piece_in,
    point_after, ways_of, wrong_places)
from tests.support import Caller
from tests.test_stamps import marks_by_words
from tests.wrong import LARGE, ODD_KINDS, Signatures, beyond, number, values


def all_ways(most):
    """All ways of up to so many folds."""
    return ["".join(told) for many in range(1, most + 1) for told in product("ou", repeat=many)]


def folded(ways):
    """The layers: piles side by side, the right half of them laid upside down on or beneath."""
    piles = [[piece] for piece in range(2 ** len(ways))]
    for way in ways:
        half = len(piles) // 2
        left, right = piles[:half], piles[half:]
        laid = [pile[::-1] for pile in reversed(right)]
        piles = [over + under if way == "o" else under + over for over, under in zip(laid, left)]
    (pile,) = piles
    return tuple(pile)


def led_through(ways, piece):
    """The layer of one piece, by leading it through all folds."""
    many, column, layer, height = 2 ** len(ways), piece, 0, 1
    for way in ways:
        is_laid = column >= many // 2
        if is_laid:
            column, layer = many - 1 - column, height - 1 - layer
        if is_laid != (way == "o"):
            layer += height
        many, height = many // 2, 2 * height
    assert column == 0
    return layer


def walked(text):
    """The points of the walk with these marks."""
    x, y, dx, dy = 1, 0, 1, 0
    points = [(0, 0), (1, 0)]
    for mark in text:
        dx, dy = (-dy, dx) if mark == "v" else (dy, -dx)
        x, y = x + dx, y + dy
        points.append((x, y))
    return tuple(points)


def drawn_ways(seed, many):
    draw = Random(seed)
    return ["".join(draw.choice("ou") for _ in range(draw.choice((7, 8, 30, 64, 99, 100))))
            for _ in range(many)]


def opposite(mark):
    return "m" if mark == "v" else "v"


FEW = all_ways(6)
SHOWN = all_ways(7) + ["o" * 10, "u" * 10, "ouououououo"[:10], "uuooouuoou", "oouuououo", "uoouoouu"]
FAR = ["o" * 100, "u" * 100, "ou" * 50] + drawn_ways(41, 30)


class TestMarks(unittest.TestCase):
    def test_marks_and_layers_against_folding(self):
        for ways in SHOWN:
            layers = folded(ways)
            self.assertEqual(layers_of(ways), layers)
            self.assertIs(type(layers_of(ways)), tuple)
            if ways in FEW:
                self.assertEqual(marks(ways), marks_by_words(layers))

    def test_marks_of_ten_ways(self):
        for ways in SHOWN:
            layers = folded(ways)
            places = {piece: place for place, piece in enumerate(layers)}
            wanted = "".join(
                "v" if (places[crease + 1] < places[crease]) == (crease % 2 == 0) else "m"
                for crease in range(len(layers) - 1))
            self.assertEqual(marks(ways), wanted)

    def test_mark_at_against_the_list(self):
        for ways in SHOWN:
            text = marks(ways)
            self.assertEqual(len(text), 2 ** len(ways) - 1)
            self.assertEqual("".join(mark_at(ways, k) for k in range(1, len(text) + 1)), text)

    def test_mark_at_far_away(self):
        draw = Random(42)
        for ways in FAR:
            many = len(ways)
            for _ in range(30):
                j = draw.randrange(many)
                m = 2 * draw.randrange(2 ** (many - 1 - j)) + 1
                is_valley = m % 4 == (1 if ways[many - 1 - j] == "o" else 3)
                self.assertEqual(mark_at(ways, m * 2 ** j), "v" if is_valley else "m")
            # Far pieces lie as their crease's mark tells.
            for _ in range(30):
                place = draw.randrange(1, 2 ** many)
                is_above = led_through(ways, place) < led_through(ways, place - 1)
                wanted = "v" if is_above == (place % 2 == 1) else "m"
                self.assertEqual(mark_at(ways, place), wanted)

    def test_count_valleys_against_the_list(self):
        for ways in SHOWN:
            text, many = marks(ways), 0
            for last, mark in enumerate(text, 1):
                many += mark == "v"
                self.assertEqual(count_valleys(ways, last), many)

    def test_count_valleys_far_away(self):
        draw = Random(43)
        for ways in FAR:
            top = 2 ** len(ways) - 1
            # Each fold but the first one makes as many valleys as mountains.
            is_valley = int(mark_at(ways, top // 2 + 1) == "v")
            self.assertEqual(count_valleys(ways, top), top // 2 + is_valley)
            for _ in range(20):
                last = draw.randrange(2, top + 1)
                more = count_valleys(ways, last) - count_valleys(ways, last - 1)
                self.assertEqual(more, int(mark_at(ways, last) == "v"))


class TestLayers(unittest.TestCase):
    def test_piece_in_and_layer_of_against_the_list(self):
        for ways in SHOWN:
            layers = folded(ways)
            for at, piece in enumerate(layers):
                self.assertEqual(piece_in(ways, at), piece)
                self.assertEqual(layer_of(ways, piece), at)

    def test_far_away_by_leading_a_piece_through_all_folds(self):
        draw = Random(44)
        for ways in FAR:
            top = 2 ** len(ways) - 1
            for piece in [0, 1, top, top - 1] + [draw.randrange(top + 1) for _ in range(30)]:
                layer = led_through(ways, piece)
                self.assertEqual(layer_of(ways, piece), layer)
                self.assertEqual(piece_in(ways, layer), piece)
                self.assertEqual(layer_of(ways, piece_in(ways, piece)), piece)


class TestWaysOf(unittest.TestCase):
    def check_wrong(self, text):
        one, other = wrong_places(text)
        self.assertIs(type(wrong_places(text)), tuple)
        self.assertTrue(1 <= one < other <= len(text))
        lowest = [place & -place for place in (one, other)]
        self.assertEqual(lowest[0], lowest[1])
        # The marks of both would have to be alike exactly if both odd parts leave the same by 4.
        alike = (one // lowest[0] - other // lowest[0]) % 4 == 0
        self.assertNotEqual(text[one - 1] == text[other - 1], alike)

    def test_ways_of_back_from_marks(self):
        for ways in SHOWN + all_ways(9)[::7]:
            self.assertEqual(ways_of(marks(ways)), ways)
            self.assertIsNone(wrong_places(marks(ways)))

    def test_all_strings_of_marks(self):
        for many in (1, 3, 7):
            known = {marks(ways): ways for ways in all_ways(3)}
            for told in product("mv", repeat=many):
                text = "".join(told)
                self.assertEqual(ways_of(text), known.get(text))
                if text in known:
                    self.assertIsNone(wrong_places(text))
                else:
                    self.check_wrong(text)

    def test_one_mark_otherwise(self):
        for ways in SHOWN:
            text = marks(ways)
            for at in range(0, len(text), 1 if len(text) < 200 else 41):
                other = text[:at] + opposite(text[at]) + text[at + 1:]
                if at == len(text) // 2:
                    # The first fold makes one place alone, so this is another way.
                    self.assertEqual(ways_of(other)[1:], ways[1:])
                    self.assertNotEqual(ways_of(other), ways)
                else:
                    self.assertIsNone(ways_of(other))
                    self.check_wrong(other)


class TestWalks(unittest.TestCase):
    def test_all_points(self):
        for ways in SHOWN:
            points = walked(marks(ways))
            self.assertEqual(all_points(ways), points)
            self.assertIs(type(all_points(ways)), tuple)
            self.assertEqual(tuple(point_after(ways, k) for k in range(len(points))), points)
            steps = {frozenset(pair) for pair in zip(points, points[1:])}
            self.assertEqual(len(steps), len(points) - 1)

    def test_the_next_step_leads_where_the_turns_up_to_it_tell(self):
        draw = Random(45)
        for ways in FAR:
            top = 2 ** len(ways)
            for _ in range(30):
                number = draw.choice((draw.randrange(top), draw.randrange(2 ** 7),
                                      top - 1 - draw.randrange(2 ** 7), top // 2))
                lefts = count_valleys(ways, number) if number > 0 else 0
                dx, dy = ((1, 0), (0, 1), (-1, 0), (0, -1))[(2 * lefts - number) % 4]
                x, y = point_after(ways, number)
                self.assertEqual(point_after(ways, number + 1), (x + dx, y + dy))
            self.assertEqual(point_after(ways, 0), (0, 0))
            self.assertEqual(point_after(ways, 1), (1, 0))

    def test_the_beginning_is_that_of_the_last_ways(self):
        for ways in FAR:
            self.assertEqual([point_after(ways, k) for k in range(129)], list(all_points(ways[-7:])))

    def test_the_end(self):
        # Each fold more turns the end by an eighth, and makes it farther.
        x, y = 1, 0
        for many in range(1, 101):
            x, y = x - y, x + y
            self.assertEqual(point_after("o" * many, 2 ** many), (x, y))
            self.assertEqual(point_after("u" * many, 2 ** many), (x, -y))


class TestHalvedWords(unittest.TestCase):
    def test_all_strings_of_up_to_eight_signs(self):
        known = set()
        for ways in all_ways(7):
            text = marks(ways)
            known |= {text[at:at + many] for many in range(1, 9)
                      for at in range(len(text) - many + 1)}
        for many in range(1, 9):
            for told in product("mv", repeat=many):
                text = "".join(told)
                self.assertIs(is_halved_word(text), text in known)

    def test_forty_signs(self):
        draw = Random(46)
        for _ in range(200):
            ways = "".join(draw.choice("ou") for _ in range(10))
            text = marks(ways)
            at = draw.randrange(len(text) - 39)
            word = text[at:at + 40]
            self.assertIs(is_halved_word(word), True)
            self.assertIs(is_halved_word(word[:draw.randrange(1, 40)]), True)
        for ways in FAR[:8]:
            place = draw.randrange(1, 2 ** len(ways) - 40)
            word = "".join(mark_at(ways, place + k) for k in range(40))
            self.assertIs(is_halved_word(word), True)

    def test_forty_signs_that_are_none(self):
        for text in ("v" * 40, "m" * 40, "vm" * 20, "vvm" * 13 + "v", "v" * 39 + "m"):
            self.assertIs(is_halved_word(text), False)
        self.assertIs(is_halved_word("vmv" + "m" * 37), False)

    def test_one_sign_of_forty_otherwise(self):
        # Of forty places at most one comes of none of the last six folds: nine folds show all.
        known = set()
        for ways in all_ways(9)[-512:]:
            text = marks(ways)
            known |= {text[at:at + 40] for at in range(len(text) - 39)}
        draw = Random(47)
        for word in draw.sample(sorted(known), 60):
            at = draw.randrange(40)
            other = word[:at] + opposite(word[at]) + word[at + 1:]
            self.assertIs(is_halved_word(other), other in known)


class TestExamples(unittest.TestCase):
    def test_the_examples_of_the_document(self):
        self.assertEqual((marks("oo"), layers_of("oo")), ("vvm", (1, 2, 3, 0)))
        self.assertEqual((mark_at("o" * 100, 2 ** 99), point_after("oo", 4)), ("v", (0, 2)))


NO_WAYS = ("", "O", "x", "o ", " o", "oo\n", "v", "0", "o" * 101, "ou" * 51, "u" * 4000, 0, 1, LARGE,
           ("o", "u"), ["o"], {"o": 1}, "ox" * 40, "\u043e")
NO_TEXTS = ("", "x", "vv", "vm", "vvvv", "m" * 5, "m" * 6, "v" * 8, "m" * 1022, "m" * 1024,
            "v" * 2047, "m" * 4000, "vvx", "V", "vmv ", "?", 1, 3, LARGE, ("v",), ["v"])
NO_WORDS = ("", "x", "v" * 41, "m" * 4000, "vx", "M", " v", "v\n", "?", 1, LARGE, ("v",), ["m"])
ODD = tuple(value for value in ODD_KINDS if type(value) is not str or value not in ("m", "v"))


class TestWrong(Signatures, Caller):
    module = module
    ways = ("ways", "ouo", values(InvalidWays, NO_WAYS + ODD_KINDS))
    text = ("text", "vvm", values(InvalidMarks, NO_TEXTS + ODD))
    table = {
        "mark_at": (ways, ("place", 3, values(InvalidPlace, beyond(1, 7)))),
        "marks": (ways,),
        "count_valleys": (ways, ("last", 3, values(InvalidPlace, beyond(1, 7)))),
        "layers_of": (ways,),
        "piece_in": (ways, number("number", 3, 0, 7)),
        "layer_of": (ways, number("number", 3, 0, 7)),
        "ways_of": (text,),
        "wrong_places": (text,),
        "point_after": (ways, number("number", 3, 0, 8)),
        "all_points": (ways,),
        "is_halved_word": (("text", "vvm", values(InvalidMarks, NO_WORDS + ODD)),),
    }

    def test_too_many_ways_to_be_listed(self):
        for ways in ("o" * 11, "u" * 100):
            for act in (marks, layers_of, all_points):
                self.check_error(TooMany, ("limit", 10), act, ways)
        for act in (marks, layers_of, all_points):
            self.check_error(InvalidWays, ("value", "o" * 10 + "x"), act, "o" * 10 + "x")

    def test_bounds_for_each_number_of_ways(self):
        for many in (1, 2, 9, 50, 100):
            ways, top = "ou" * 50, 2 ** many
            ways = ways[:many]
            for value in (0, -1, top, top + 1, True):
                self.check_error(InvalidPlace, ("value", value), mark_at, ways, value)
                self.check_error(InvalidPlace, ("value", value), count_valleys, ways, value)
            for value in (-1, top, top + 1, True):
                self.check_error(InvalidNumber, ("value", value), piece_in, ways, value)
                self.check_error(InvalidNumber, ("value", value), layer_of, ways, value)
            for value in (-1, top + 1, top + 2, False):
                self.check_error(InvalidNumber, ("value", value), point_after, ways, value)
            self.assertIn(mark_at(ways, top - 1), ("m", "v"))
            self.assertEqual(layer_of(ways, piece_in(ways, top - 1)), top - 1)
            self.assertIs(type(point_after(ways, top)), tuple)

    def test_bounds_of_texts(self):
        self.assertEqual((ways_of("v"), ways_of("m")), ("o", "u"))
        self.assertEqual(ways_of(marks("o" * 10)), "o" * 10)
        self.assertIs(is_halved_word("m"), True)


if __name__ == "__main__":
    unittest.main()
