"""Decks of cards, laid together as a folded row again and again."""

import unittest
from collections import deque
from fractions import Fraction
from random import Random

from foldworld import decks as module
from foldworld.decks import deck_after, loops, order_of, place_after, row_to
from foldworld.errors import InvalidNumber, InvalidShuffle, TooMany
from tests.support import Caller
from tests.wrong import LARGE, ODD_KINDS, Signatures, beyond, deep, number, values

WORDS = ("out", "in", "fold")
SIZES = range(2, 61, 2)


def shuffled(shuffle, deck):
    """Each card to its place, card by card."""
    half, size = len(deck) // 2, len(deck)
    found = [None] * size
    for p, card in enumerate(deck):
        if p < half:
            to = 2 * p + 1 if shuffle == "in" else 2 * p
        elif shuffle == "out":
            to = 2 * p - size + 1
        else:
            to = 2 * p - size if shuffle == "in" else 2 * size - 1 - 2 * p
        found[to] = card
    return found


def decks_by_words(shuffle, size):
    """The decks after 0, 1, 2, .. times, up to the first one that is as before."""
    start = list(range(size))
    found = [start]
    while True:
        deck = shuffled(shuffle, found[-1])
        if deck == start:
            return found
        found.append(deck)


def order_by_powers(shuffle, size):
    """The least power of 2 that leaves 1, or for `fold` also 1 less than nothing."""
    divisor = {"out": size - 1, "in": size + 1, "fold": 2 * size - 1}[shuffle]
    t = 1
    while pow(2, t, divisor) != 1 % divisor:
        if shuffle == "fold" and (pow(2, t, divisor) + 1) % divisor == 0:
            break
        t += 1
    return t


def rows_by_search(size):
    """The first of the shortest strings to each place, by going through all strings in order."""
    found = {0: ""}
    queue = deque([0])
    while queue:
        here = queue.popleft()
        for letter, shuffle in (("i", "in"), ("o", "out")):
            deck = list(range(size))
            there = shuffled(shuffle, deck).index(here)
            if there not in found:
                found[there] = found[here] + letter
                queue.append(there)
    return found


KNOWN = {(shuffle, size): decks_by_words(shuffle, size) for shuffle in WORDS for size in SIZES}


class TestShuffles(unittest.TestCase):
    def test_deck_after_against_doing_it_card_by_card(self):
        for (shuffle, size), decks in KNOWN.items():
            for times, deck in enumerate(decks + decks[:3]):
                self.assertEqual(deck_after(shuffle, size, times), tuple(deck))
            self.assertIs(type(deck_after(shuffle, size, 1)), tuple)

    def test_place_after_against_doing_it_card_by_card(self):
        for (shuffle, size), decks in KNOWN.items():
            for times, deck in list(enumerate(decks + decks[:3]))[::1 if size < 20 else 5]:
                for place, card in enumerate(deck):
                    self.assertEqual(place_after(shuffle, size, card, times), place)

    def test_order_of_against_the_decks(self):
        for (shuffle, size), decks in KNOWN.items():
            self.assertEqual(order_of(shuffle, size), len(decks))
            self.assertIs(type(order_of(shuffle, size)), int)

    def test_two_cards(self):
        self.assertEqual([order_of(shuffle, 2) for shuffle in WORDS], [1, 2, 1])
        self.assertEqual([deck_after(shuffle, 2, 1) for shuffle in WORDS], [(0, 1), (1, 0), (0, 1)])
        self.assertEqual([loops(shuffle, 2) for shuffle in WORDS],
                         [((0,), (1,)), ((0, 1),), ((0,), (1,))])

    def test_order_of_by_the_powers_of_2(self):
        draw = Random(61)
        sizes = [2 * draw.randrange(1, 2000) for _ in range(20)]
        for size in sizes + list(range(62, 130, 2)):
            for shuffle in WORDS:
                self.assertEqual(order_of(shuffle, size), order_by_powers(shuffle, size))

    def test_order_of_great_decks(self):
        for shuffle, size in (("in", 10 ** 6), ("out", 10 ** 6), ("fold", 10 ** 6),
                              ("in", 999958), ("out", 999984), ("fold", 499994)):
            t = order_of(shuffle, size)
            divisor = {"out": size - 1, "in": size + 1, "fold": 2 * size - 1}[shuffle]
            leaves = (1, divisor - 1) if shuffle == "fold" else (1,)
            self.assertIn(pow(2, t, divisor), leaves)
            # A lesser one would divide this one.
            for factor in range(2, t + 1):
                if t % factor == 0:
                    self.assertNotIn(pow(2, t // factor, divisor), leaves)

    def test_great_decks_far_away(self):
        draw = Random(62)
        for _ in range(150):
            shuffle, size = draw.choice(WORDS), 2 * draw.randrange(1, 500001)
            place, times = draw.randrange(size), draw.randrange(10 ** 30)
            here = place_after(shuffle, size, place, times)
            # One time more leads on by the rule.
            there = place_after(shuffle, size, place, times + 1)
            self.assertEqual(place_after(shuffle, size, here, 1), there)
            self.assertTrue(0 <= here < size)
            half = size // 2
            if shuffle == "fold":
                self.assertEqual(there, 2 * here if here < half else 2 * size - 1 - 2 * here)
            elif shuffle == "in":
                self.assertEqual(there, 2 * here + 1 if here < half else 2 * here - size)
            else:
                self.assertEqual(there, 2 * here if here < half else 2 * here - size + 1)

    def test_ten_to_the_thirty_times(self):
        far = 10 ** 30
        for (shuffle, size), decks in KNOWN.items():
            self.assertEqual(deck_after(shuffle, size, far), tuple(decks[far % len(decks)]))
            for place in (0, 1, size // 2, size - 1):
                to = decks[far % len(decks)].index(place)
                self.assertEqual(place_after(shuffle, size, place, far), to)
        for shuffle in WORDS:
            for size in (998, 1000):
                left = far % order_of(shuffle, size)
                self.assertEqual(deck_after(shuffle, size, far), deck_after(shuffle, size, left))
                deck = list(range(size))
                for _ in range(5):
                    deck = shuffled(shuffle, deck)
                self.assertEqual(deck_after(shuffle, size, 5), tuple(deck))

    def test_by_fold_a_card_goes_as_a_raisin(self):
        for size in SIZES:
            for card in range(size):
                place = Fraction(2 * card, 2 * size - 1)
                moved = 2 * place if 2 * place <= 1 else 2 - 2 * place
                to = place_after("fold", size, card, 1)
                self.assertEqual(Fraction(2 * to, 2 * size - 1), moved)


class TestLoops(unittest.TestCase):
    def test_loops(self):
        for (shuffle, size), decks in KNOWN.items():
            found = loops(shuffle, size)
            once = decks[1 % len(decks)]
            self.assertIs(type(found), tuple)
            self.assertTrue(all(type(loop) is tuple for loop in found))
            self.assertEqual(sorted(place for loop in found for place in loop), list(range(size)))
            self.assertEqual(list(found), sorted(found))
            for loop in found:
                self.assertEqual(min(loop), loop[0])
                for place, to in zip(loop, loop[1:] + loop[:1]):
                    self.assertEqual(once.index(place), to)

    def test_loops_of_a_thousand_cards(self):
        for shuffle in WORDS:
            found = loops(shuffle, 1000)
            self.assertEqual(max(map(len, found)), order_of(shuffle, 1000))
            for loop in found:
                self.assertEqual(order_of(shuffle, 1000) % len(loop), 0)


class TestRows(unittest.TestCase):
    def test_row_to_against_a_search(self):
        for size in list(SIZES) + [62, 64, 66, 100, 128, 130]:
            known = rows_by_search(size)
            self.assertEqual(len(known), size)
            for place in range(size):
                self.assertEqual(row_to(size, place), known[place])

    def test_row_to_leads_there(self):
        draw = Random(63)
        for _ in range(100):
            size = 2 * draw.randrange(1, 500001)
            place = draw.randrange(size)
            here = 0
            for letter in row_to(size, place):
                here = place_after("in" if letter == "i" else "out", size, here, 1)
            self.assertEqual(here, place)
        # The words are the figures of the place to the base 2.
        self.assertEqual(row_to(10 ** 6, 999999), f"{999999:b}".replace("1", "i").replace("0", "o"))

    def test_the_top_place(self):
        for size in (2, 52, 10 ** 6):
            self.assertEqual(row_to(size, 0), "")
            self.assertEqual(row_to(size, 1), "i")


class TestExamples(unittest.TestCase):
    def test_the_examples_of_the_document(self):
        self.assertEqual((order_of("out", 52), order_of("in", 52)), (8, 52))
        self.assertEqual((place_after("fold", 8, 3, 1), place_after("fold", 8, 5, 1)), (6, 5))
        self.assertEqual(order_of("fold", 8), 4)


NO_SHUFFLES = ("", "Out", "OUT", "out ", " in", "i", "o", "inn", "foldd", "outin", b"out", ("out",),
               ["out"], {"out": 1}, 0, 1, LARGE, "fold\n", deep("out"))


class TestWrong(Signatures, Caller):
    module = module
    shuffle = ("shuffle", "fold", values(InvalidShuffle, NO_SHUFFLES + ODD_KINDS))
    size = ("size", 8, values(InvalidNumber, beyond(2, 10 ** 6) + (3, 5, 7, 9, 51, 999999, 10 ** 59)))
    times = number("times", 3, 0, 10 ** 30)
    table = {
        "place_after": (shuffle, size, number("number", 3, 0, 7), times),
        "order_of": (shuffle, size),
        "deck_after": (shuffle, size, times),
        "loops": (shuffle, size),
        "row_to": (size, number("number", 3, 0, 7)),
    }

    def test_too_many_is_looked_for_at_last(self):
        for size in (1002, 10 ** 6):
            for shuffle in WORDS:
                self.check_error(TooMany, ("limit", 1000), deck_after, shuffle, size, 3)
                self.check_error(TooMany, ("limit", 1000), loops, shuffle, size)
                self.check_error(InvalidNumber, ("value", -1), deck_after, shuffle, size, -1)
        self.check_error(InvalidNumber, ("value", 1001), loops, "in", 1001)

    def test_a_number_below_each_size(self):
        for size in (2, 52, 1000, 10 ** 6):
            for value in (-1, size, size + 1, True, False):
                self.check_error(InvalidNumber, ("value", value), place_after, "in", size, value, 0)
                self.check_error(InvalidNumber, ("value", value), row_to, size, value)
            for shuffle in WORDS:
                self.assertEqual(place_after(shuffle, size, size - 1, 0), size - 1)
                self.assertEqual(place_after(shuffle, size, 0, 0), 0)

    def test_bounds_are_let_in(self):
        self.assertEqual(len(deck_after("in", 1000, 10 ** 30)), 1000)
        self.assertEqual(place_after("out", 10 ** 6, 999999, 10 ** 30), 999999)
        self.assertEqual(place_after("out", 2, 1, 10 ** 30), 1)


if __name__ == "__main__":
    unittest.main()
