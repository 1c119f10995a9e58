"""What holds over the whole program: what is counted in two ways meets, and what is told can be passed."""

import importlib
import inspect
import unittest
from fractions import Fraction
from itertools import permutations, product as all_tuples
from math import lcm
from random import Random

from foldworld import errors
from foldworld.certificates import (
    certify_above, certify_card, certify_course, certify_halves, certify_layers, certify_least,
    certify_marked, certify_marks, certify_order, certify_path, certify_rounds, certify_strip,
    certify_word)
from foldworld.checker import accepts
from foldworld.clues import count_ways, first_ways, fitting, sure_marks, sure_ways
from foldworld.consoles import Console
from foldworld.decks import loops, order_of, place_after
from foldworld.dough import course_of, fraction_of, letter_at
from foldworld.errors import Broken, Refused
from foldworld.halves import layers_of, mark_at, marks, ways_of
from foldworld.rivers import all_rivers, is_river, path
from foldworld.rounds import count_rounds, rounds, spread
from foldworld.rows import all_rows, count_rows, exchanged, neighbours, nth_row
from foldworld.sheets import Sheet
from foldworld.shelves import Shelf
from foldworld.stamps import (
    all_foldings, count_foldings, count_topped, count_with, foldings_with, is_folding, marks_of)
from foldworld.strips import (
    after_step, count_layerings, is_foldable, is_layering, layerings, steps, steps_now)
from foldworld.tangles import closed, flip, least_word, made_of, product
from tests.support import drawn_row

INTERFACE = {
    "rows": "count_rows all_rows nth_row index_of_row mate arches depth count_short count_with_short "
            "turned mirrored blocks exchanged neighbours",
    "rounds": "rounds count_rounds spread weights weight powers chain",
    "rivers": "is_river count_rivers all_rivers path river_of meeting",
    "tangles": "unit hook flip strands product closed made_of least_word",
    "stamps": "count_foldings all_foldings count_topped is_folding crossing marks_of sides topped "
              "foldings_with count_with sure_pairs is_ring_folding count_ring_foldings",
    "strips": "stretches span is_layering layerings count_layerings is_foldable steps after_step steps_now",
    "halves": "mark_at marks count_valleys layers_of piece_in layer_of ways_of wrong_places point_after "
              "all_points is_halved_word",
    "dough": "is_less shortened letter_at fraction_of course_of is_round greatest_turn count_rounds "
             "all_rounds order_of_round places_of forces doubled is_ahead",
    "decks": "place_after order_of deck_after loops row_to",
    "clues": "fitting sure_marks sure_above best_crease sure_ways count_ways first_ways",
    "boards": "Board attempt",
    "sheets": "Sheet",
    "shelves": "Shelf",
    "checker": "accepts",
    "certificates": "certify_rounds certify_path certify_word certify_least certify_layers certify_marked "
                    "certify_strip certify_halves certify_marks certify_course certify_order certify_card "
                    "certify_above",
    "consoles": "Console",
    "samples": "rainbow hills spiral",
}
METHODS = {
    ("boards", "Board"): "__len__ do do_all undo trial",
    ("sheets", "Sheet"): "fold unfold turn_over undo mark trial tried",
    ("shelves", "Shelf"): "__getitem__ __setitem__ __contains__ __len__ drop wish lift turn undo trial tried",
    ("consoles", "Console"): "say",
}


class TestInterface(unittest.TestCase):
    def test_each_name_is_defined_in_its_file(self):
        for name, listed in INTERFACE.items():
            module = importlib.import_module(f"foldworld.{name}")
            for word in listed.split():
                with self.subTest(name, word=word):
                    self.assertEqual(getattr(module, word).__module__, f"foldworld.{name}")
                    self.assertTrue(inspect.isclass(getattr(module, word)) == word[0].isupper())

    def test_each_method_is_defined_in_its_class(self):
        for (name, word), listed in METHODS.items():
            made = getattr(importlib.import_module(f"foldworld.{name}"), word)
            for method in listed.split():
                with self.subTest(word, method=method):
                    self.assertTrue(inspect.isfunction(vars(made)[method]))

    def test_errors_derive_from_no_other(self):
        groups = (errors.ShapeError, errors.QuestionError, errors.SizeError)
        for name, kind in vars(errors).items():
            if inspect.isclass(kind) and kind not in groups:
                with self.subTest(name):
                    self.assertEqual(sum(issubclass(kind, group) for group in groups), 1)
                    self.assertIn(kind.__bases__[0], groups)


class TestRounds(unittest.TestCase):
    def check_rounds(self, upper, lower):
        many = len(rounds(upper, lower))
        self.assertEqual(count_rounds(upper, lower), many)
        tangle, between = product(upper, flip(lower))
        self.assertEqual(between + closed(tangle), many)
        claim, certificate = certify_rounds(upper, lower)
        self.assertEqual(claim[-1], many)
        for number in range(15):
            self.assertIs(accepts(claim[:-1] + (number,), certificate), number == many)
        console = Console(len(upper) // 2)
        self.assertEqual(console.say(f"rounds {upper} {lower}"), str(many))
        self.assertEqual(console.say(f"product {upper} {flip(lower)}"), f"{tangle} {between}")
        self.assertIs(is_river(upper, lower), many == 1)
        shelf = Shelf()
        shelf["up"], shelf["low"] = upper, lower
        shelf.wish(("rounds", "up", "low", many))
        with self.assertRaises(Broken):
            shelf.wish(("rounds", "up", "low", many + 1 if many < 12 else 11))

    def test_rounds_in_five_ways(self):
        for many in range(1, 5):
            for upper in all_rows(many):
                for lower in all_rows(many):
                    self.check_rounds(upper, lower)
        draw = Random(141)
        for many in (5, 8, 12):
            for _ in range(30):
                self.check_rounds(drawn_row(draw, many), drawn_row(draw, many))

    def test_spread_is_that_of_lists(self):
        for many in (1, 2, 3, 4, 5):
            self.assertEqual(sum(spread(many)), count_rows(many) ** 2)
            self.assertEqual(spread(many)[0], len(all_rivers(many)))

    def test_an_exchange_makes_one_round_more_or_less(self):
        draw = Random(142)
        for _ in range(60):
            upper, lower = drawn_row(draw, 6), drawn_row(draw, 6)
            for other in neighbours(upper):
                self.assertEqual(abs(count_rounds(upper, lower) - count_rounds(other, lower)), 1)

    def test_tangles_of_words_and_words_of_tangles(self):
        for many in (1, 2, 3, 4, 5):
            for tangle in all_rows(many):
                self.assertEqual(made_of(many, least_word(tangle)), (tangle, 0))


class TestFoldings(unittest.TestCase):
    def test_foldings_in_five_ways(self):
        for many in range(1, 8):
            found = all_foldings(many)
            self.assertEqual(count_foldings(many), len(found))
            self.assertEqual(count_layerings((1,) * many), len(found))
            self.assertEqual(fitting("?" * (many - 1), ()), found)
            self.assertEqual(sum(count_topped(many, piece) for piece in range(many)), len(found))
            told = ["".join(signs) for signs in all_tuples("mv", repeat=many - 1)]
            self.assertEqual(sum(map(count_with, told)), len(found))
            for text in told:
                wanted = tuple(layers for layers in found if marks_of(layers) == text)
                self.assertEqual(foldings_with(text), wanted)
                self.assertEqual(fitting(text, ()), wanted)
                self.assertEqual(layerings((7,) * many, text), wanted)
                self.assertIs(is_foldable((7,) * many, text), True)
            for layers in found:
                self.assertTrue(accepts(("folding", layers), certify_layers(layers)[1]))
                self.assertEqual(Console(1).say("marks " + "".join(map(str, layers))),
                                 marks_of(layers) or "none")

    def test_eight_pieces(self):
        told = ["".join(signs) for signs in all_tuples("mv", repeat=7)]
        self.assertEqual(sum(map(count_with, told)), count_foldings(8))
        self.assertEqual(count_layerings((1,) * 8), count_foldings(8))

    def test_layers_by_the_checker(self):
        for layers in permutations(range(5)):
            claim, certificate = certify_layers(layers)
            self.assertEqual(claim[0], "folding" if is_folding(layers) else "crossing")
            self.assertEqual(is_folding(layers), is_layering((3,) * 5, layers))
            self.assertTrue(accepts(claim, certificate))

    def test_a_strip_folds_if_steps_lead_to_one_piece(self):
        draw = Random(143)
        for _ in range(300):
            lengths = tuple(draw.randint(1, 5) for _ in range(draw.randint(1, 7)))
            text = "".join(draw.choice("mv") for _ in lengths[1:])
            left = (lengths, text)
            for step in steps(lengths, text):
                self.assertIn(step, steps_now(*left))
                left = after_step(*left, step)
            self.assertEqual(steps_now(*left), ())
            self.assertEqual(len(left[0]) == 1, is_foldable(lengths, text))
            self.assertEqual(certify_strip(lengths, text)[0][0],
                             "folds" if len(left[0]) == 1 else "stuck")


class TestHalves(unittest.TestCase):
    def test_halves_in_five_ways(self):
        for many in range(1, 7):
            for told in all_tuples("ou", repeat=many):
                self.check_halves("".join(told))

    def check_halves(self, ways):
        many = len(ways)
        text = marks(ways)
        places = range(1, 2 ** many)
        layers = layers_of(ways)
        at = {piece: place for place, piece in enumerate(layers)}
        self.assertEqual(text, "".join(
            "v" if (at[k] < at[k - 1]) == (k % 2 == 1) else "m" for k in places))
        if many < 4:
            self.assertEqual(marks_of(layers), text)
            self.assertTrue(is_folding(layers))
        sheet = Sheet(many)
        for way in ways:
            sheet.fold(way)
        self.assertEqual("".join(map(sheet.mark, places)), text)
        self.assertEqual("".join(mark_at(ways, k) for k in places), text)
        self.assertEqual(Console(1).say(f"halves {ways}"), text)
        spots = tuple((2 ** k, text[2 ** k - 1]) for k in range(many))
        self.assertEqual((sure_ways(many, spots), first_ways(many, spots)), (ways, ways))
        self.assertEqual((count_ways(many, spots), ways_of(text)), (1, ways))
        self.assertEqual(certify_marks(text), certify_halves(ways))
        self.assertTrue(accepts(("halved", text, ways), ()))

    def test_far_away(self):
        draw = Random(144)
        for _ in range(10):
            ways = "".join(draw.choice("ou") for _ in range(100))
            sheet = Sheet(100)
            for way in ways:
                sheet.fold(way)
            for _ in range(20):
                place = draw.randrange(1, 2 ** 100)
                mark = mark_at(ways, place)
                self.assertEqual(sheet.mark(place), mark)
                self.assertEqual(count_ways(100, ((place, mark),)), 2 ** 99)
                index = 99 - ((place & -place).bit_length() - 1)
                self.assertEqual(sure_ways(100, ((place, mark),))[index], ways[index])


class TestCards(unittest.TestCase):
    def test_cards_as_raisins(self):
        for size in range(2, 42, 2):
            lengths = []
            for card in range(size):
                place = Fraction(2 * card, 2 * size - 1)
                lead, loop = course = course_of((place.numerator, place.denominator))
                self.assertEqual(lead, "")
                lengths.append(len(loop))
                here = place
                for times in range(6):
                    card_place = place_after("fold", size, card, times)
                    self.assertEqual(Fraction(2 * card_place, 2 * size - 1), here)
                    letter = letter_at(course, times)
                    self.assertEqual(letter, "l" if card_place < size // 2 else "r")
                    here = 2 * here if letter == "l" else 2 - 2 * here
                self.assertEqual(place_after("fold", size, card, len(loop)), card)
                self.assertTrue(accepts(*certify_course(course)))
            self.assertEqual(order_of("fold", size), lcm(*lengths))
            self.assertEqual(sorted(map(len, loops("fold", size)), reverse=True), sorted(
                (many for many in set(lengths) for _ in range(lengths.count(many) // many)), reverse=True))
            self.assertEqual(Console(1).say(f"deck fold {size}"), str(lcm(*lengths)))


class TestPassedBack(unittest.TestCase):
    """What is returned, or told in an error, is let in where it is within the bounds."""

    def test_values_that_are_returned(self):
        for number in range(1, 8):
            for index in range(0, count_rows(number), 17):
                row = nth_row(number, index)
                upper, lower = row, nth_row(number, count_rows(number) - 1 - index)
                if is_river(upper, lower):
                    self.assertTrue(accepts(*certify_path(path(upper, lower))))
                self.assertTrue(accepts(*certify_rounds(upper, lower)))
                if number < 7:
                    self.assertTrue(accepts(*certify_word(row)))
                    self.assertTrue(accepts(*certify_least(row)))
        for layers in all_foldings(6):
            self.assertTrue(accepts(*certify_marked(layers)))
            self.assertTrue(accepts(*certify_strip((4,) * 6, marks_of(layers))))
            self.assertTrue(accepts(*certify_above("?????", ((layers[0], layers[1]),), 0, 1)))
        self.assertEqual(sure_marks(sure_marks("v??", ((0, 2),)), ()),
                         sure_marks("v??", ((0, 2),)))

    def test_claims_and_certificates_are_claims_of_their_own(self):
        claim, certificate = certify_order(("", "r"), ("lr", "rl"))
        self.assertTrue(accepts(claim, certificate))
        self.assertTrue(accepts(*certify_order(claim[2], claim[1])))
        claim, certificate = certify_card("in", 52, 7, 10 ** 30)
        self.assertTrue(accepts(*certify_card("out", 52, claim[-1], 1)))
        fraction = fraction_of(course_of((3, 7)))
        self.assertEqual(fraction, (3, 7))

    def test_values_in_errors(self):
        with self.assertRaises(Refused) as caught:
            exchanged("()()", 0, 1)
        self.assertEqual(exchanged("()()", 2, caught.exception.value), "(())")


if __name__ == "__main__":
    unittest.main()
