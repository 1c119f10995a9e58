"""Certificates: each claim is true, what it tells is what other modules tell, and the checker takes it."""

import unittest
from itertools import permutations, product
from random import Random

from foldworld import certificates as module
from foldworld.certificates import (
    certify_above, certify_card, certify_course, certify_halves, certify_layers, certify_least,
    certify_marked, certify_marks, certify_order, certify_path, certify_rounds, certify_strip,
    certify_word)
from foldworld.checker import accepts
from foldworld.clues import fitting, sure_above
from foldworld.decks import order_of, place_after
from foldworld.dough import fraction_of, is_less
from foldworld.errors import (
    InvalidClues, InvalidMarks, InvalidNumber, InvalidPairs, NoFit, Refused, TooMany)
from foldworld.halves import marks, ways_of
from foldworld.rivers import meeting, river_of
from foldworld.rounds import rounds
from foldworld.rows import all_rows
from foldworld.stamps import all_foldings, is_folding, marks_of, sides
from foldworld.strips import is_foldable
from foldworld.tangles import least_word, unit
from tests import (
    test_clues, test_decks, test_dough, test_halves, test_rivers, test_rounds, test_stamps,
    test_strips, test_tangles)
from tests.papers import is_right
from tests.support import Caller, drawn_row
from tests.wrong import LARGE, Signatures, beyond, values


class CertificateTest(Caller):
    def check_paper(self, paper, claim, far=False):
        """The pair of the claim and a certificate that shows it."""
        self.assertIs(type(paper), tuple)
        told, certificate = paper
        self.assertEqual(told, claim)
        self.assertEqual(repr(told), repr(claim))
        self.assertIs(accepts(told, certificate), True, paper)
        if not far:
            self.assertTrue(is_right(told, certificate), paper)
        return certificate


class TestRowsAndPaths(CertificateTest):
    def test_rounds(self):
        draw = Random(121)
        pairs = [(one, other) for many in range(4) for one in all_rows(many) for other in all_rows(many)]
        pairs += [(drawn_row(draw, 12), drawn_row(draw, 12)) for _ in range(20)]
        for upper, lower in pairs:
            found = rounds(upper, lower)
            claim = ("rounds", upper, lower, len(found))
            self.assertEqual(self.check_paper(certify_rounds(upper, lower), claim), found)

    def test_paths(self):
        seen = set()
        paths = [(0,) + rest for rest in permutations(range(1, 6))] + [(0, 1), tuple(range(24))]
        for path in paths + list(test_rivers.drawn_candidates(122, 100)):
            if meeting(path) is None:
                found = self.check_paper(certify_path(path), ("river", path))
                self.assertEqual(found, river_of(path))
            else:
                self.check_paper(certify_path(path), ("no river", path))
            seen.add(certify_path(path)[0][0])
        self.assertEqual(seen, {"river", "no river"})


class TestTangles(CertificateTest):
    def test_words_and_least_words(self):
        tangles = [row for many in range(1, 5) for row in all_rows(many)] + [unit(5), unit(6)]
        draw = Random(123)
        far = [drawn_row(draw, 6) for _ in range(20)] + ["()" * 6, "(()())" * 2]
        for tangle in tangles + far:
            word = least_word(tangle)
            found = self.check_paper(certify_word(tangle), ("word", tangle, word), tangle in far)
            self.assertEqual((len(found), found[0], found[-1]),
                             (len(word) + 1, unit(len(tangle) // 2), tangle))
            found = self.check_paper(certify_least(tangle), ("least", tangle, len(word)), tangle in far)
            self.assertEqual(found, word)


class TestLayers(CertificateTest):
    def test_all_layers(self):
        for many in range(1, 6):
            for layers in permutations(range(many)):
                self.check_layers(layers)
        for layers in test_stamps.drawn_layers(124, 8, 60) + list(all_foldings(7))[::9]:
            self.check_layers(layers)

    def check_layers(self, layers):
        if is_folding(layers):
            found = self.check_paper(certify_layers(layers), ("folding", layers))
            self.assertEqual(found, sides(layers))
            claim = ("marked", marks_of(layers), layers)
            self.assertEqual(self.check_paper(certify_marked(layers), claim), ())
        else:
            self.check_paper(certify_layers(layers), ("crossing", layers))
            self.check_error(Refused, ("value", layers), certify_marked, layers)


class TestStrips(CertificateTest):
    def test_strips(self):
        seen = set()
        strips = [lengths for many in (1, 2, 3) for lengths in product((1, 2, 3), repeat=many)]
        strips += test_strips.DRAWN + [(1000,) * 3, (1, 1000, 1, 1000)]
        draw = Random(125)
        for lengths in strips:
            for _ in range(3):
                told = "".join(draw.choice("mv") for _ in lengths[1:])
                word = "folds" if is_foldable(lengths, told) else "stuck"
                self.check_paper(certify_strip(lengths, told), (word, lengths, told))
                seen.add(word)
        self.assertEqual(seen, {"folds", "stuck"})

    def test_eight_pieces(self):
        draw = Random(126)
        for lengths in test_strips.LONG:
            for _ in range(3):
                told = "".join(draw.choice("mv") for _ in lengths[1:])
                word = "folds" if is_foldable(lengths, told) else "stuck"
                self.check_paper(certify_strip(lengths, told), (word, lengths, told), True)


class TestHalves(CertificateTest):
    def test_ways(self):
        for ways in test_halves.all_ways(5) + ["ouuououuoo", "o" * 10]:
            claim = ("halved", marks(ways), ways)
            self.assertEqual(self.check_paper(certify_halves(ways), claim, len(ways) > 9), ())
            self.assertEqual(certify_marks(marks(ways)), certify_halves(ways))

    def test_marks(self):
        for many in (1, 2, 3):
            for signs in product("mv", repeat=2 ** many - 1):
                self.check_marks("".join(signs))
        draw = Random(127)
        for many in (4, 6, 10):
            for _ in range(10):
                told = list(marks("".join(draw.choice("ou") for _ in range(many))))
                at = draw.randrange(len(told))
                told[at] = "m" if told[at] == "v" else "v"
                self.check_marks("".join(told))

    def check_marks(self, told):
        ways = ways_of(told)
        if ways is None:
            self.check_paper(certify_marks(told), ("not halved", told))
        else:
            self.check_paper(certify_marks(told), ("halved", told, ways), len(ways) > 9)


class TestDough(CertificateTest):
    def test_courses(self):
        for course in test_dough.SMALL + test_dough.drawn_courses(128, 60, 40) + [("l" * 40, "r" * 40)]:
            claim = ("course", fraction_of(course)) + course
            found = self.check_paper(certify_course(course), claim)
            self.assertEqual(len(found), len(course[0]) + len(course[1]) + 1)

    def test_orders(self):
        courses = test_dough.SMALL[::7] + test_dough.drawn_courses(129, 30, 40)
        for one in courses:
            for other in courses:
                paper = certify_order(one, other)
                if is_less(one, other):
                    self.check_paper(paper, ("greater", other, one))
                elif is_less(other, one):
                    self.check_paper(paper, ("greater", one, other))
                else:
                    self.assertIs(paper, None)
                    self.assertEqual(test_dough.row_of(one), test_dough.row_of(other))

    def test_one_row_told_in_two_ways(self):
        for one, other in ((("", "rl"), ("rl", "rl")), (("r", "lr"), ("", "rlrl")),
                           (("", "l"), ("l" * 40, "l" * 40)), (("lr", "r"), ("lrr", "rrr"))):
            self.assertIs(certify_order(one, other), None)
            self.assertIs(certify_order(other, one), None)
            self.assertIs(certify_order(one, one), None)


class TestCards(CertificateTest):
    def test_cards(self):
        for shuffle in ("out", "in", "fold"):
            for size in (2, 8, 52):
                for place in range(0, size, 3):
                    for times in (0, 1, 7, 10 ** 30):
                        end = place_after(shuffle, size, place, times)
                        claim = ("card", shuffle, size, place, times, end)
                        self.assertEqual(
                            self.check_paper(certify_card(shuffle, size, place, times), claim), ())
            order = order_of(shuffle, 10 ** 6)
            claim = ("card", shuffle, 10 ** 6, 999998, order, 999998)
            self.check_paper(certify_card(shuffle, 10 ** 6, 999998, order), claim, True)


class TestClues(CertificateTest):
    def test_clues(self):
        seen = set()
        draw = Random(130)
        clues = [(told, test_clues.drawn_pairs(draw, len(told) + 1, many))
                 for told in test_clues.all_told(3) for many in (0, 1, 2)]
        clues += test_clues.drawn_clues(131, 25)
        for told, pairs in clues:
            many = len(told) + 1
            sure = sure_above(told, pairs) if fitting(told, pairs) else None
            for piece, other in permutations(range(many), 2):
                if sure is None:
                    with self.assertRaises(NoFit) as caught:
                        certify_above(told, pairs, piece, other)
                    self.assertEqual(vars(caught.exception), {})
                    seen.add("none")
                    continue
                word = "surely" if (piece, other) in sure else "perhaps not"
                claim = (word, told, pairs, piece, other)
                found = self.check_paper(certify_above(told, pairs, piece, other), claim)
                if word == "perhaps not":
                    self.assertIn(found, fitting(told, pairs))
                seen.add(word)
        self.assertEqual(len(seen), 3)

    def test_at_the_bounds(self):
        pairs = tuple((piece, 6) for piece in range(6)) + ((0, 6),) * 4
        self.check_paper(certify_above("??????", pairs, 3, 6), ("surely", "??????", pairs, 3, 6))
        self.check_paper(certify_above("??????", pairs, 3, 5), ("perhaps not", "??????", pairs, 3, 5))


def wrong_of(tests, name):
    """The parameters of a function, as the tests of its own module tell them."""
    return tests.TestWrong.table[name]


class TestWrong(Signatures, CertificateTest):
    module = module
    table = {
        "certify_rounds": wrong_of(test_rounds, "rounds"),
        "certify_path": wrong_of(test_rivers, "meeting"),
        "certify_word": wrong_of(test_tangles, "least_word"),
        "certify_least": wrong_of(test_tangles, "least_word"),
        "certify_layers": wrong_of(test_stamps, "crossing"),
        "certify_marked": wrong_of(test_stamps, "marks_of"),
        "certify_strip": wrong_of(test_strips, "layerings"),
        "certify_halves": wrong_of(test_halves, "marks"),
        "certify_marks": wrong_of(test_halves, "wrong_places"),
        "certify_course": wrong_of(test_dough, "fraction_of"),
        "certify_order": wrong_of(test_dough, "is_less"),
        "certify_card": wrong_of(test_decks, "place_after"),
        "certify_above": wrong_of(test_clues, "fitting") + (
            ("piece", 2, values(InvalidNumber, beyond(0, 3))),
            ("other_piece", 1, values(InvalidNumber, beyond(0, 3) + (2,)))),
    }

    def test_looked_for_at_last(self):
        for act in (certify_word, certify_least):
            self.check_error(TooMany, ("limit", 6), act, unit(7))
            self.check_error(Refused, ("value", ""), act, "")
        self.check_error(TooMany, ("limit", 10), certify_halves, "o" * 11)
        self.check_error(InvalidMarks, ("value", "v" * 1024), certify_marks, "v" * 1024)
        self.check_error(Refused, ("value", (0, 2, 1, 3)), certify_marked, (0, 2, 1, 3))

    def test_pieces(self):
        for told in ("", "?", "mv?", "??????"):
            many = len(told)
            for wrong in (many + 1, -1, True, None, "0", LARGE):
                self.check_error(InvalidNumber, ("value", wrong), certify_above, told, (), wrong, 0)
                self.check_error(InvalidNumber, ("value", wrong), certify_above, told, (), 0, wrong)
            self.check_error(InvalidNumber, ("value", many), certify_above, told, (), many, many)
        # Of two that are none the first one, of one piece twice the second one.
        one, other = -10 ** 40, 10 ** 40
        self.check_error(InvalidNumber, ("value", one), certify_above, "??", (), one, other)
        self.check_error(InvalidNumber, ("value", 1), certify_above, "??", (), 1, 1)

    def test_none_fits_is_looked_for_at_last(self):
        pairs = ((0, 1), (1, 0))
        self.check_error(InvalidNumber, ("value", 3), certify_above, "??", pairs, 3, 1)
        self.check_error(InvalidNumber, ("value", 1), certify_above, "??", pairs, 1, 1)
        self.check_error(InvalidPairs, ("index", 0), certify_above, "??", ((0, 3),), 3, 3)
        self.check_error(InvalidClues, ("value", "x"), certify_above, "x", None, None, None)
        with self.assertRaises(NoFit):
            certify_above("??", pairs, 0, 1)


if __name__ == "__main__":
    unittest.main()
