"""The checker, against the second one of `tests.papers`."""

import inspect
import unittest
from itertools import permutations, product
from random import Random

from foldworld import checker as module
from foldworld.certificates import certify_course, certify_order
from foldworld.checker import accepts
from foldworld.decks import order_of, place_after
from foldworld.halves import mark_at, marks
from foldworld.rows import all_rows
from foldworld.tangles import hook, least_word, made_of, unit
from tests.papers import RIGHT, SMALL_PAPERS, bent, is_right, tangles_by_words
from tests.support import drawn_row, rounds_by_words
from tests.test_clues import all_told
from tests.test_dough import drawn_courses, row_of
from tests.test_rivers import LARGE_RIVERS, drawn_candidates, sides_of
from tests.test_stamps import crossing_by_words, marks_by_words
from tests.test_strips import behind_by_words, layerings_by_words, steps_by_words
from tests.wrong import ALIKE, LARGE, ODD_KINDS, deep


def all_steps(lengths, told):
    """All ways to make steps until none can be made, and what is left behind each."""
    able = steps_by_words(lengths, told)
    if not able:
        return [((), lengths)]
    return [((step,) + steps, left) for step in able
            for steps, left in all_steps(*behind_by_words(lengths, told, step))]


class CheckerTest(unittest.TestCase):
    def check_shown(self, claim, certificate):
        self.assertIs(accepts(claim, certificate), True, (claim, certificate))

    def check_not_shown(self, claim, certificate):
        self.assertIs(accepts(claim, certificate), False, (claim, certificate))

    def check_alike(self, claim, certificate):
        wanted = is_right(claim, certificate)
        self.assertIs(accepts(claim, certificate), wanted, (claim, certificate))
        return wanted


class TestPapers(CheckerTest):
    def test_each_kind_of_claim(self):
        self.assertEqual({claim[0] for claim, _ in SMALL_PAPERS}, set(RIGHT))
        for claim, certificate in SMALL_PAPERS:
            self.assertTrue(is_right(claim, certificate), claim)
            self.check_shown(claim, certificate)

    def test_claims_and_certificates_bent(self):
        for claim, certificate in SMALL_PAPERS:
            seen = [self.check_alike(other, certificate) for other in bent(claim)]
            self.assertIn(False, seen)
            seen = [self.check_alike(claim, other) for other in bent(certificate)]
            self.assertIn(False, seen)

    def test_claims_and_certificates_bent_together(self):
        draw = Random(110)
        seen = []
        for _ in range(2500):
            claim, certificate = draw.choice(SMALL_PAPERS)
            for _ in range(draw.randrange(3)):
                claim = draw.choice(list(bent(claim)) or [claim])
                certificate = draw.choice(list(bent(certificate)) or [certificate])
            seen.append(self.check_alike(claim, certificate))
        self.assertIn(False, seen)

    def test_certificates_of_other_claims(self):
        for claim, _ in SMALL_PAPERS:
            for _, certificate in SMALL_PAPERS:
                self.check_alike(claim, certificate)
            for word in list(RIGHT) + ["", "true", "Rounds", "rounds "]:
                self.check_alike((word,) + claim[1:], ())

    def test_true_for_one_and_false_for_none(self):
        for claim, certificate in (
                (("rounds", "()", "()", True), ((0, 1),)), (("rounds", "()", "()", 1), ((False, True),)),
                (("rounds", "", "", False), ()), (("river", (False, True)), ("()", "()")),
                (("least", "()", False), ()), (("least", "()()", True), (0,)),
                (("least", "()()", 1), (False,)), (("word", "()()", (False,)), ("(())", "()()")),
                (("crossing", (False, 2, True, 3)), (0, 2)), (("crossing", (0, 2, 1, 3)), (False, 2)),
                (("folding", (False,)), (".", ".")), (("marked", "", (False,)), ()),
                (("folds", (True,), ""), (0,)), (("folds", (1,), ""), (False,)),
                (("stuck", (2, 3, 1, 3, 2), "vmmv"), (("end", False), ("end", True))),
                (("not halved", "vvv"), (True, 3)), (("course", (False, True), "", "l"), ((0, 1), (0, 1))),
                (("course", (0, 1), "", "l"), ((False, 1), (0, True))),
                (("greater", ("", "rl"), ("", "r")), True), (("greater", ("", "r"), ("l", "r")), False),
                (("card", "out", 2, False, 0, 0), ()), (("card", "out", 2, 0, False, 0), ()),
                (("card", "out", 2, 0, 0, False), ()), (("surely", "?", ((False, True),), 0, 1), ()),
                (("surely", "?", ((0, 1),), False, True), ()), (("perhaps not", "?", (), 1, 0), (False, True)),
        ):
            self.check_not_shown(claim, certificate)
            self.assertEqual(is_right(claim, certificate), False)

    def test_lists_for_tuples(self):
        def listed(value):
            return [listed(one) for one in value] if type(value) is tuple else value

        for claim, certificate in SMALL_PAPERS:
            self.check_not_shown(listed(claim), certificate)
            if type(certificate) is tuple:
                self.check_not_shown(claim, listed(certificate))
            self.check_not_shown(claim + (certificate,), certificate)
            self.check_not_shown(claim[:-1], certificate)
            self.check_not_shown((claim, certificate), ())


class TestAnything(CheckerTest):
    def test_any_values(self):
        many = ODD_KINDS + (
            0, 1, -1, LARGE, -LARGE, "x" * 4000, "()" * 2000, "m" * 4000, "0" * 4000, deep(()),
            deep([]), deep({}), deep("rounds"), {"rounds": 1}, {"rounds"}, [deep(1)] * 100,
            (LARGE,) * 200, tuple(range(4000)), ALIKE, (ALIKE,) * 4, accepts, CheckerTest, b"rounds",
            bytearray(b"()"), 10 ** 60, "", float, NotImplemented, ..., Exception(), range(10 ** 9))
        for value in many:
            for other in (None, (), 0, "", value):
                self.check_not_shown(value, other)
                self.check_not_shown(other, value)
            for word, act in RIGHT.items():
                parts = act.__code__.co_argcount - 1
                self.check_not_shown((word,) + (value,) * parts, value)
                self.check_not_shown((word,) + (value,) * parts, ())
                self.check_not_shown((word, value), value)
        for claim, certificate in SMALL_PAPERS:
            for value in many:
                if not (value == () and certificate == ()):
                    self.check_alike(claim, value)
                for at in range(len(claim)):
                    self.check_alike(claim[:at] + (value,) + claim[at + 1:], certificate)

    def test_great_tuples_that_share_their_elements(self):
        value = (0, 1)
        for _ in range(18):
            value = (value,) * 50
        for claim, certificate in SMALL_PAPERS:
            self.check_not_shown(claim, value)
            for at in range(len(claim)):
                self.check_not_shown(claim[:at] + (value,) + claim[at + 1:], certificate)
                self.check_not_shown(claim[:at] + (value,) + claim[at + 1:], value)

    def test_what_fails_when_it_is_looked_at(self):
        class Bad:
            def __eq__(self, other):
                raise RuntimeError

            def __hash__(self):
                raise RuntimeError

            def __len__(self):
                raise RuntimeError

            def __bool__(self):
                raise RuntimeError

            def __iter__(self):
                raise RuntimeError

            def __lt__(self, other):
                raise RuntimeError

        bad = Bad()
        for value in (bad, (bad,), (bad, bad), (0, bad), ("end", bad), (("end", bad),), (bad, "m")):
            self.check_not_shown(value, value)
            for claim, certificate in SMALL_PAPERS:
                self.check_not_shown(claim, value)
                for at in range(len(claim)):
                    self.check_not_shown(claim[:at] + (value,) + claim[at + 1:], certificate)

    def test_signature(self):
        self.assertEqual(accepts.__module__, module.__name__)
        self.assertEqual(list(inspect.signature(accepts).parameters), ["claim", "certificate"])
        self.assertIs(accepts(certificate=(".", "."), claim=("folding", (0,))), True)
        self.assertIs(accepts(None, None), False)


class TestRowsAndPaths(CheckerTest):
    def test_rounds_of_all_small_rows(self):
        for many in range(5):
            for upper in all_rows(many):
                for lower in all_rows(many):
                    found = rounds_by_words(upper, lower)
                    for number in range(many + 2):
                        self.assertIs(accepts(("rounds", upper, lower, number), found),
                                      number == len(found))

    def test_rounds_of_great_rows(self):
        draw = Random(111)
        for many in (11, 12):
            for _ in range(20):
                upper, lower = drawn_row(draw, many), drawn_row(draw, many)
                found = rounds_by_words(upper, lower)
                self.check_shown(("rounds", upper, lower, len(found)), found)
                self.check_not_shown(("rounds", upper, lower, len(found)), found[:-1] + ((),))
                self.check_not_shown(("rounds", upper, lower, len(found)), found[::-1] + ((),))
        self.check_not_shown(("rounds", "()" * 13, "()" * 13, 13),
                             tuple((2 * k, 2 * k + 1) for k in range(13)))
        self.check_not_shown(("rounds", "()", "(())", 1), ((0, 1),))

    def test_all_paths_and_pairs_of_six_feet(self):
        pairs = [(low, high) for low in range(6) for high in range(6)]
        for rest in permutations(range(1, 6)):
            path = (0,) + rest
            self.check_alike(("river", path), ("((()))", "()()()"))
            for one in pairs:
                for other in pairs:
                    self.check_alike(("no river", path), (one, other))

    def test_none_is_no_pair_of_rows(self):
        for path in ((0, 2, 1, 3), (0, 1, 3, 5, 4, 2)):
            for certificate in (None, (None, None), ("()" * (len(path) // 2),) * 2, ()):
                self.check_not_shown(("river", path), certificate)

    def test_great_rivers(self):
        for upper, lower in LARGE_RIVERS:
            mates = {}
            here, path = 0, []
            for side in (upper, lower):
                opened = []
                for foot, sign in enumerate(side):
                    if sign == "(":
                        opened.append(foot)
                    else:
                        low = opened.pop()
                        mates[side, foot, upper is side], mates[side, low, upper is side] = low, foot
            while not path or here != 0:
                other = mates[upper, here, True]
                path += [here, other]
                here = mates[lower, other, lower is upper]
            path = tuple(path)
            self.check_shown(("river", path), (upper, lower))
            self.check_not_shown(("river", path), (lower, upper) if lower != upper else ())
            self.check_not_shown(("no river", path), ((path[0], path[1]), (path[2], path[3])))

    def test_drawn_candidates(self):
        for path in drawn_candidates(112, 200):
            upper, lower = sides_of(path)
            for side in (upper, lower):
                for one in side[:5]:
                    for other in side + upper[:2]:
                        self.check_alike(("no river", path), (one, other))
            self.check_alike(("river", path), ("()" * (len(path) // 2), "()" * (len(path) // 2)))

    def test_bounds_of_paths(self):
        path = tuple(range(24))
        self.check_shown(("river", path), ("()" * 12, "(" + "()" * 11 + ")"))
        path = tuple(range(26))
        self.check_not_shown(("river", path), ("()" * 13, "(" + "()" * 12 + ")"))
        self.check_not_shown(("river", ()), ("", ""))
        self.check_not_shown(("no river", (1, 0, 2, 3)), ((0, 2), (1, 3)))
        self.check_not_shown(("no river", (0, 2, 1, 3, 4)), ((0, 2), (1, 3)))


class TestTangles(CheckerTest):
    def test_all_words_of_up_to_four_hooks(self):
        for size in (1, 2, 3, 4):
            tangles = all_rows(size)
            for many in range(4):
                for word in product(range(size - 1), repeat=many):
                    along, rounds = tangles_by_words(size, word)
                    for tangle in tangles:
                        self.assertIs(accepts(("word", tangle, word), along),
                                      rounds == 0 and tangle == along[-1])

    def test_least_and_no_other_number(self):
        for size in (1, 2, 3, 4):
            for tangle in all_rows(size):
                least = len(least_word(tangle))
                for many in range(min(least + 3, 6)):
                    for word in product(range(max(size - 1, 1)), repeat=many):
                        wanted = many == least and made_of(size, word) == (tangle, 0) if size > 1 else (
                            word == () and many == 0)
                        for number in (many - 1, many, many + 1, least):
                            self.assertIs(accepts(("least", tangle, number), word),
                                          wanted and number == least)

    def test_other_words_of_the_least_length(self):
        word = (0, 2, 4, 1, 3)
        tangle, rounds = made_of(6, word)
        self.assertEqual(rounds, 0)
        for other in ((0, 2, 4, 1, 3), (4, 2, 0, 3, 1), (2, 0, 1, 4, 3)):
            self.assertIs(accepts(("least", tangle, 5), other), made_of(6, other) == (tangle, 0))
        self.check_shown(("least", tangle, 5), (4, 2, 0, 3, 1))
        self.check_not_shown(("least", tangle, 7), (0, 2, 4, 1, 3, 4, 3))
        self.check_not_shown(("least", tangle, 5), (0, 2, 4, 1, 3, 4, 3))

    def test_sizes(self):
        self.check_shown(("least", unit(6), 0), ())
        self.check_not_shown(("least", unit(7), 0), ())
        self.check_shown(("word", unit(12), ()), (unit(12),))
        self.check_shown(("word", hook(12, 10), (10,)), (unit(12), hook(12, 10)))
        self.check_not_shown(("word", hook(12, 10), (11,)), (unit(12), hook(12, 10)))
        self.check_not_shown(("word", "(" * 13 + ")" * 13, ()), ("(" * 13 + ")" * 13,))
        self.check_not_shown(("word", "", ()), ("",))
        self.check_not_shown(("least", "", 0), ())
        self.check_not_shown(("word", "()()", (0, 0)), ("(())", "()()", "()()"))

    def test_sixty_hooks(self):
        word = (0, 1) * 30
        along = tangles_by_words(3, word)[0]
        self.check_shown(("word", along[-1], word), along)
        longer = word + (0,)
        self.check_not_shown(("word", hook(3, 0), longer), tangles_by_words(3, longer)[0])


class TestLayers(CheckerTest):
    def test_all_layers_and_pairs_of_creases(self):
        for many in range(1, 6):
            for layers in permutations(range(many)):
                for low in range(-1, many + 1):
                    for high in range(-1, many + 1):
                        self.check_alike(("crossing", layers), (low, high))
                self.check_alike(("folding", layers), (".", "."))
                self.check_alike(("folding", layers), ("()...."[:many], "......"[:many]))

    def test_eight_pieces(self):
        layers = (7, 5, 3, 1, 0, 2, 4, 6)
        self.assertIsNone(crossing_by_words(layers))
        self.check_shown(("folding", layers), ("(((())))", ".(((.)))"))
        self.check_shown(("marked", marks_by_words(layers), layers), ())
        self.check_not_shown(("marked", marks_by_words(layers), layers), ((),))
        self.check_shown(("crossing", (0, 2, 1, 3, 4, 5, 6, 7)), (0, 2))
        self.check_not_shown(("crossing", (0, 2, 1, 3, 4, 5, 6, 7, 8)), (0, 2))
        self.check_not_shown(("folding", ()), ("", ""))
        self.check_not_shown(("marked", "mvmvmvmv", tuple(range(9))), ())

    def test_marks_that_go_with_no_folding_layers(self):
        # Layers that cross have no marks that are claimed.
        for layers in permutations(range(4)):
            self.check_alike(("marked", marks_by_words(layers), layers), ())


class TestStrips(CheckerTest):
    def test_just_one_of_folds_and_stuck_can_be_shown(self):
        for many in range(1, 5):
            for lengths in product((1, 2, 3), repeat=many):
                found = layerings_by_words(lengths)
                for signs in product("mv", repeat=many - 1):
                    self.check_strip(lengths, "".join(signs), found)

    def check_strip(self, lengths, told, found):
        folds = False
        for layers in permutations(range(len(lengths))):
            wanted = layers in found and marks_by_words(layers) == told
            self.assertIs(accepts(("folds", lengths, told), layers), wanted)
            folds = folds or wanted
        for steps, left in all_steps(lengths, told):
            self.assertIs(accepts(("stuck", lengths, told), steps), len(left) > 1)
            self.assertEqual(len(left) > 1, not folds)
            if steps:
                self.check_not_shown(("stuck", lengths, told), steps[:-1])
            self.check_not_shown(("stuck", lengths, told), steps + (("end", 0),))
            self.check_not_shown(("stuck", lengths, told), steps + (("crimp", 0),))

    def test_any_steps_and_any_layering_of_longer_strips(self):
        draw = Random(113)
        seen = set()
        for _ in range(60):
            many = draw.choice((5, 6))
            lengths = tuple(draw.randint(1, 4) for _ in range(many))
            told = "".join(draw.choice("mv") for _ in range(many - 1))
            for steps, left in all_steps(lengths, told)[:40]:
                self.assertIs(accepts(("stuck", lengths, told), steps), len(left) > 1)
                seen.add(len(left) > 1)
            for layers in permutations(range(many)):
                if marks_by_words(layers) == told:
                    self.check_alike(("folds", lengths, told), layers)
        self.assertEqual(seen, {True, False})

    def test_a_crimp_may_make_a_piece_longer_than_a_thousand(self):
        lengths, told = (1000, 1, 1000, 1000, 5, 1000), "vmvvv"
        found = [steps for steps, left in all_steps(lengths, told) if len(left) > 1]
        self.assertTrue(any(step[0] == "crimp" for steps in found for step in steps))
        for steps in found:
            self.check_shown(("stuck", lengths, told), steps)

    def test_bounds(self):
        self.check_shown(("folds", (1000,) * 8, "vvvvvvv"), self.some_folding("vvvvvvv"))
        self.check_not_shown(("folds", (1001,), ""), (0,))
        self.check_not_shown(("folds", (0,), ""), (0,))
        self.check_not_shown(("folds", (1,) * 9, "v" * 8), tuple(range(9)))
        self.check_not_shown(("folds", (1, 1), ""), (0, 1))
        self.check_not_shown(("folds", (), ""), ())
        self.check_shown(("stuck", (3, 1, 1000), "vv"), ())
        self.check_not_shown(("stuck", (3, 1, 1001), "vv"), ())
        self.check_not_shown(("stuck", (5,), ""), ())

    def some_folding(self, told):
        pile = (0,)
        for piece in range(1, 8):
            pile = next(layers for layers in (
                pile[:at] + (piece,) + pile[at:] for at in range(piece + 1))
                if crossing_by_words(layers) is None and marks_by_words(layers) == told[:piece])
        return pile


class TestHalves(CheckerTest):
    def test_all_marks_of_two_folds_and_all_pairs(self):
        for many in (1, 2):
            places = range(0, 2 ** many + 1)
            for signs in product("mv", repeat=2 ** many - 1):
                told = "".join(signs)
                for ways in product("ou", repeat=many):
                    self.check_alike(("halved", told, "".join(ways)), ())
                for one in places:
                    for other in places:
                        self.check_alike(("not halved", told), (one, other))

    def test_all_pairs_of_drawn_marks(self):
        draw = Random(114)
        for many in (3, 4):
            for _ in range(30):
                told = list(marks("".join(draw.choice("ou") for _ in range(many))))
                for _ in range(draw.randrange(3)):
                    told[draw.randrange(len(told))] = draw.choice("mv")
                for one in range(1, len(told) + 1):
                    for other in range(1, len(told) + 1):
                        self.check_alike(("not halved", "".join(told)), (one, other))

    def test_bounds(self):
        ten = marks("ouooouuuou")
        self.check_shown(("halved", ten, "ouooouuuou"), ())
        self.check_not_shown(("halved", ten[:-1], "ouooouuuou"), ())
        other = ten[:511] + ("m" if ten[511] == "v" else "v") + ten[512:]
        self.check_not_shown(("halved", other, "ouooouuuou"), ())
        self.check_shown(("not halved", ("v" if ten[0] == "m" else "m") + ten[1:]), (1, 1023))
        self.check_not_shown(("not halved", ten), (1, 1023))
        self.check_not_shown(("not halved", "v" * 2047), (1, 3))
        eleven = "".join(mark_at("o" * 11, place) for place in range(1, 2048))
        self.check_not_shown(("halved", eleven, "o" * 11), ())
        self.check_shown(("not halved", "v" * 1023), (1, 3))
        self.check_not_shown(("not halved", "v" * 1022), (1, 3))
        self.check_not_shown(("not halved", "v"), (1, 1))
        self.check_not_shown(("halved", "", ""), ())


class TestDough(CheckerTest):
    def test_drawn_courses(self):
        for lead, loop in drawn_courses(115, 60, 12) + drawn_courses(116, 60, 40):
            claim, certificate = certify_course((lead, loop))
            self.assertTrue(is_right(claim, certificate))
            self.check_shown(claim, certificate)
            # Another turn of the loop is too much, and one letter less is not enough.
            self.check_not_shown(claim, certificate + certificate[len(lead) + 1:])
            self.check_not_shown(claim, certificate[:-1])
            self.check_not_shown(claim, certificate[1:])
            top, bottom = certificate[0]
            for wrong in ((top + 1, bottom), (top, bottom + 1), (2 * top, 2 * bottom), (bottom - top, bottom)):
                if wrong != (top, bottom):
                    self.check_not_shown(("course", wrong) + claim[2:], certificate)
                    self.check_not_shown(("course", wrong) + claim[2:], (wrong,) + certificate[1:])

    def test_a_course_led_on_beyond_its_loop(self):
        for lead, loop in (("lr", "rl"), ("", "rlr"), ("l" * 20, "r" * 20)):
            claim, certificate = certify_course((lead, loop + loop))
            self.check_shown(claim, certificate)
            self.check_not_shown(claim[:3] + (loop,), certificate)
            other, shorter = certify_course((lead, loop))
            self.assertEqual((other[1], certificate[:len(shorter)]), (claim[1], shorter))
            self.check_not_shown(claim, shorter)

    def test_what_does_not_stay_between_0_and_1(self):
        # At a half both letters lead to 1, from which `l` leads out.
        self.check_not_shown(("course", (1, 2), "l", "l"), ((1, 2), (1, 1), (2, 1)))
        self.check_not_shown(("course", (1, 1), "", "l"), ((1, 1), (2, 1)))
        self.check_not_shown(("course", (0, 1), "r", "l"), ((0, 1), (2, 1), (4, 1)))
        self.check_not_shown(("course", (-2, 1), "", "rl"), ((-2, 1), (6, 1), (12, 1)))
        self.check_not_shown(("course", (0, -1), "", "l"), ((0, -1), (0, -1)))
        self.check_not_shown(("course", (0, 2), "", "l"), ((0, 2), (0, 2)))
        self.check_not_shown(("course", (0, 0), "", "l"), ((0, 0), (0, 0)))
        self.check_not_shown(("course", (0, 10 ** 60 + 1), "", "l"), ((0, 10 ** 60 + 1),) * 2)

    def test_a_loop_that_does_not_lead_back(self):
        self.check_not_shown(("course", (1, 4), "", "l"), ((1, 4), (1, 2)))
        self.check_not_shown(("course", (1, 4), "l", "r"), ((1, 4), (1, 2), (1, 1)))
        self.check_not_shown(("course", (1, 2), "r", "rl"), ((1, 2), (1, 1), (0, 1), (0, 1)))
        self.check_not_shown(("course", (3, 5), "", "rl"), ((3, 5), (4, 5), (8, 5)))
        self.check_not_shown(("course", (3, 5), "", "rr"), ((3, 5), (4, 5), (2, 5)))

    def test_lengths_of_courses(self):
        claim, certificate = certify_course(("r" * 40, "l" * 39 + "r"))
        self.check_shown(claim, certificate)
        self.assertGreater(certificate[0][1], 10 ** 20)
        self.check_not_shown(("course", (0, 1), "l" * 41, "l"), ((0, 1),) * 43)
        self.check_not_shown(("course", (0, 1), "l", "l" * 41), ((0, 1),) * 43)
        self.check_not_shown(("course", (0, 1), "l", ""), ((0, 1),) * 2)
        self.check_shown(("course", (0, 1), "l" * 40, "l" * 40), ((0, 1),) * 81)

    def check_order(self, one, other):
        rows = row_of(one), row_of(other)
        alike = next((at for at in range(200) if rows[0][at] != rows[1][at]), None)
        if alike is None:
            self.assertIsNone(certify_order(one, other))
            for number in (0, 1, 40, 79, 80, 119, 120, 121, 200, None):
                self.check_not_shown(("greater", one, other), number)
            return
        shown = [self.check_alike(("greater", first, second), number)
                 for first, second in ((one, other), (other, one))
                 for number in (alike, alike + 1, alike - 1, -1, 0 if alike else 1, 120, LARGE, None)]
        self.assertEqual(shown.count(True), 1)

    def test_drawn_orders(self):
        courses = drawn_courses(117, 60, 3) + drawn_courses(118, 30, 40)
        for one, other in zip(courses, courses[1:] + courses[:1]):
            self.check_order(one, other)
        for one in courses[:20]:
            for other in courses[:20]:
                self.check_order(one, other)

    def test_one_row_told_in_two_ways(self):
        self.check_order(("", "rl"), ("rl", "rlrl"))
        self.check_order(("r", "lr"), ("", "rl"))
        self.check_order(("l" * 40, "l"), ("", "l" * 40))

    def test_rows_alike_for_long(self):
        self.check_order(("l" * 40, "r"), ("l" * 39, "r"))
        self.check_order(("", "r" * 40), ("r" * 40, "r" * 39 + "l"))
        self.check_order(("r" * 40, "r" * 38 + "l"), ("r" * 40, "r" * 39 + "l"))
        # Loops of 40 and 39 letters that are alike for as long as two such loops can be.
        one, other = ("", "l" * 38 + "rl"), ("", "l" * 38 + "r")
        self.check_order(one, other)
        self.check_order(("r" * 40, one[1]), ("r" * 40, other[1]))

    def test_no_courses(self):
        for wrong in (("", ""), ("l" * 41, "r"), ("", "r" * 41), ("x", "r"), ["", "r"], ("r",), None):
            self.check_not_shown(("greater", wrong, ("", "l")), 0)
            self.check_not_shown(("greater", ("", "r"), wrong), 0)


class TestCards(CheckerTest):
    def test_all_small_decks(self):
        for shuffle in ("out", "in", "fold"):
            for size in (2, 4, 10):
                for place in range(size):
                    for times in (0, 1, 2, 5):
                        for end in range(-1, size + 1):
                            self.check_alike(("card", shuffle, size, place, times, end), ())

    def test_far_and_many_times(self):
        for shuffle in ("out", "in", "fold"):
            for size in (52, 1000, 10 ** 6):
                order = order_of(shuffle, size)
                for place in (0, 1, size // 2, size - 1):
                    end = place_after(shuffle, size, place, 10 ** 30 % order)
                    self.check_shown(("card", shuffle, size, place, 10 ** 30, end), ())
                    self.check_not_shown(("card", shuffle, size, place, 10 ** 30, end + 1), ())
                    self.check_not_shown(("card", shuffle, size, place, 10 ** 30 + 1, place), ())
                    self.check_not_shown(("card", shuffle, size, place, 10 ** 30 + order, end), ())

    def test_bounds(self):
        for size in (0, 1, 3, -2, 10 ** 6 + 2, 10 ** 6 + 1, LARGE):
            self.check_not_shown(("card", "out", size, 0, 0, 0), ())
        self.check_shown(("card", "out", 10 ** 6, 0, 10 ** 30, 0), ())
        self.check_not_shown(("card", "out", 10 ** 6, 0, -1, 0), ())
        self.check_not_shown(("card", "out", 4, 4, 0, 4), ())
        self.check_not_shown(("card", "mix", 4, 0, 0, 0), ())


class TestClues(CheckerTest):
    def check_clues(self, told, pairs, piece, other):
        """Just one of both can be shown, or neither if no folding fits."""
        surely = self.check_alike(("surely", told, pairs, piece, other), ())
        many = len(told) + 1
        against = [layers for layers in permutations(range(many))
                   if self.check_alike(("perhaps not", told, pairs, piece, other), layers)]
        self.assertFalse(surely and against)
        return "surely" if surely else "perhaps not" if against else "neither"

    def test_all_small_clues(self):
        draw = Random(119)
        seen = set()
        for told in all_told(3):
            many = len(told) + 1
            pieces = range(-1, many + 1)
            for pairs in ((), ((0, many - 1),), tuple(
                    tuple(draw.sample(range(many), 2)) for _ in range(2)) if many > 1 else ()):
                for piece in pieces:
                    for other in pieces:
                        seen.add(self.check_clues(told, pairs, piece, other))
        self.assertEqual(seen, {"surely", "perhaps not", "neither"})

    def test_clues_that_no_folding_fits(self):
        for told, pairs in (("v", ((0, 1),)), ("??", ((0, 1), (1, 0))), ("v?m", ((0, 1), (2, 3)))):
            for piece in range(len(told) + 1):
                for other in range(len(told) + 1):
                    self.assertEqual(self.check_clues(told, pairs, piece, other), "neither")

    def test_six_signs_and_ten_pairs(self):
        pairs = tuple((0, piece) for piece in range(1, 7)) + ((1, 2), (2, 3), (1, 3), (0, 1))
        for piece, other in ((0, 6), (1, 3), (4, 5), (5, 4), (3, 1)):
            self.check_alike(("surely", "??????", pairs, piece, other), ())
        self.check_shown(("surely", "??????", pairs, 0, 6), ())
        self.check_not_shown(("surely", "??????", pairs + ((0, 1),), 0, 6), ())
        self.check_not_shown(("surely", "???????", pairs, 0, 6), ())
        layers = (0, 1, 2, 3, 4, 5, 6)
        self.check_alike(("perhaps not", "??????", (), 6, 0), layers)
        self.check_shown(("perhaps not", "??????", (), 6, 0), layers)
        self.check_not_shown(("perhaps not", "??????", (), 0, 6), layers)
        self.check_not_shown(("perhaps not", "??????", ((6, 0),), 6, 0), layers)


if __name__ == "__main__":
    unittest.main()
