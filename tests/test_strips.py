"""Strips with told lengths: how they lie, and the steps that fold them."""

import unittest
from itertools import permutations, product
from random import Random

from foldworld import strips as module
from foldworld.errors import InvalidLayers, InvalidLengths, InvalidMarks, Refused
from foldworld.stamps import all_foldings, foldings_with, is_folding
from foldworld.strips import (
    after_step, count_layerings, is_foldable, is_layering, layerings, span, steps, steps_now,
    stretches)
from tests.support import Caller, cross
from tests.test_stamps import NO_MARKS, crease_by_words, marks_by_words
from tests.wrong import ALIKE, LARGE, ODD_KINDS, Signatures, deep, indexes, values


def points_by_words(lengths):
    """Where each piece begins and ends."""
    found, here = [], 0
    for piece, length in enumerate(lengths):
        there = here + length if piece % 2 == 0 else here - length
        found.append((here, there))
        here = there
    return found


def is_layering_by_words(lengths, layers):
    """The two conditions of point [14]."""
    points = points_by_words(lengths)
    creases = range(len(lengths) - 1)
    for crease in creases:
        point = points[crease][1]
        top, bottom = crease_by_words(layers, crease)
        for piece in layers[top + 1:bottom]:
            if min(points[piece]) < point < max(points[piece]):
                return False
        for other in creases:
            if other != crease and other % 2 == crease % 2 and points[other][1] == point:
                if cross((top, bottom), crease_by_words(layers, other)):
                    return False
    return True


def layerings_by_words(lengths):
    return [layers for layers in permutations(range(len(lengths)))
            if is_layering_by_words(lengths, layers)]


def marks_of_all(many):
    return ["".join(signs) for signs in product("mv", repeat=many)]


def drawn_lengths(seed, pieces, most, many):
    draw = Random(seed)
    return [tuple(draw.randint(1, most) for _ in range(pieces)) for _ in range(many)]


SMALL = [lengths for many in range(1, 4) for lengths in product(range(1, 5), repeat=many)]
SMALL += list(product(range(1, 4), repeat=4)) + list(product((1, 2), repeat=5))
DRAWN = drawn_lengths(31, 4, 9, 30) + drawn_lengths(32, 5, 5, 40) + drawn_lengths(33, 6, 4, 12)
DRAWN += drawn_lengths(34, 5, 1000, 10)
LONG = drawn_lengths(35, 7, 6, 20) + drawn_lengths(36, 8, 4, 20) + drawn_lengths(37, 8, 1000, 10)


def steps_by_words(lengths, marks):
    """All steps that can be made, by point [15]."""
    found = []
    many = len(lengths)
    if many > 1 and lengths[0] <= lengths[1]:
        found.append(("end", 0))
    if many > 1 and lengths[many - 1] <= lengths[many - 2]:
        found.append(("end", 1))
    for k in range(many - 2):
        if (marks[k] != marks[k + 1] and lengths[k + 1] <= lengths[k]
                and lengths[k + 1] <= lengths[k + 2]):
            found.append(("crimp", k))
    return tuple(sorted(found))


def behind_by_words(lengths, marks, step):
    lengths, marks = list(lengths), list(marks)
    if step == ("end", 0):
        del lengths[0], marks[0]
    elif step == ("end", 1):
        del lengths[-1], marks[-1]
    else:
        k = step[1]
        lengths[k:k + 3] = [lengths[k] + lengths[k + 2] - lengths[k + 1]]
        del marks[k:k + 2]
    return tuple(lengths), "".join(marks)


class TestLying(unittest.TestCase):
    def test_stretches_and_span(self):
        for lengths in SMALL + DRAWN + LONG:
            points = points_by_words(lengths)
            found = stretches(lengths)
            self.assertEqual(found, tuple((min(pair), max(pair)) for pair in points))
            self.assertIs(type(found), tuple)
            self.assertTrue(all(type(pair) is tuple for pair in found))
            ends = [point for pair in points for point in pair]
            self.assertEqual(span(lengths), max(ends) - min(ends))
            self.assertIs(type(span(lengths)), int)
        self.assertEqual(stretches((3, 1, 3)), ((0, 3), (2, 3), (2, 5)))
        self.assertEqual(span((3, 1, 3)), 5)
        self.assertEqual(span((1000,)), 1000)

    def test_layerings_against_putting_piles_together(self):
        for lengths in SMALL + DRAWN:
            wanted = layerings_by_words(lengths)
            self.assertEqual(count_layerings(lengths), len(wanted))
            for marks in marks_of_all(len(lengths) - 1):
                found = layerings(lengths, marks)
                self.assertIs(type(found), tuple)
                self.assertEqual(
                    list(found), [layers for layers in wanted if marks_by_words(layers) == marks])
                self.assertIs(is_foldable(lengths, marks), len(found) > 0)

    def test_is_layering_for_all_piles(self):
        for lengths in SMALL[::3] + DRAWN[::3]:
            for layers in permutations(range(len(lengths))):
                self.assertIs(is_layering(lengths, layers), is_layering_by_words(lengths, layers))

    def test_is_layering_for_drawn_piles(self):
        draw = Random(38)
        for lengths in LONG:
            for _ in range(30):
                layers = tuple(draw.sample(range(len(lengths)), len(lengths)))
                self.assertIs(is_layering(lengths, layers), is_layering_by_words(lengths, layers))

    def test_long_strips(self):
        for lengths in LONG:
            found = [layers for marks in marks_of_all(len(lengths) - 1)
                     for layers in layerings(lengths, marks)]
            self.assertEqual(len(found), count_layerings(lengths))
            self.assertEqual(len(set(found)), len(found))
            for layers in found[::5]:
                self.assertTrue(is_layering_by_words(lengths, layers))
                self.assertIs(is_layering(lengths, layers), True)

    def test_a_long_strip_against_putting_piles_together(self):
        for lengths in LONG[:3]:
            self.assertEqual(count_layerings(lengths), len(layerings_by_words(lengths)))

    def test_pieces_of_one_length_lie_as_stamps(self):
        for many in range(1, 8):
            for length in (1, 7, 1000):
                self.assertEqual(count_layerings((length,) * many), len(all_foldings(many)))
            for marks in marks_of_all(many - 1)[::3]:
                self.assertEqual(layerings((5,) * many, marks), foldings_with(marks))
        for layers in permutations(range(5)):
            self.assertIs(is_layering((3,) * 5, layers), is_folding(layers))

    def test_one_piece(self):
        self.assertEqual(layerings((7,), ""), ((0,),))
        self.assertEqual((count_layerings((7,)), is_layering((7,), (0,))), (1, True))
        self.assertEqual((is_foldable((7,), ""), steps((7,), ""), steps_now((7,), "")),
                         (True, (), ()))

    def test_a_point_at_the_end_of_a_stretch_does_no_harm(self):
        # The crease 0 is at the point 2, where the piece 2 ends, or goes through.
        self.assertIs(is_layering((2, 1, 1), (0, 2, 1)), True)
        self.assertIs(is_layering((2, 1, 2), (0, 2, 1)), False)


class TestSteps(Caller):
    def each_strip(self):
        for lengths in SMALL + DRAWN + LONG:
            for marks in marks_of_all(len(lengths) - 1)[::1 if len(lengths) < 6 else 5]:
                yield lengths, marks

    def test_steps_now_are_all_and_ascending(self):
        for lengths, marks in self.each_strip():
            found = steps_now(lengths, marks)
            self.assertEqual(found, steps_by_words(lengths, marks))
            self.assertIs(type(found), tuple)
            for step in found:
                self.assertEqual((type(step), type(step[0]), type(step[1])), (tuple, str, int))

    def test_after_step(self):
        for lengths, marks in self.each_strip():
            for step in steps_now(lengths, marks):
                found = after_step(lengths, marks, step)
                self.assertEqual(found, behind_by_words(lengths, marks, step))
                self.assertEqual(tuple(map(type, found)), (tuple, str))

    def test_a_length_grows_beyond_the_bound(self):
        self.assertEqual(after_step((1000, 1, 1000), "mv", ("crimp", 0)), ((1999,), ""))
        self.assertEqual(after_step((1000, 1, 1000, 3), "vmm", ("crimp", 0)), ((1999, 3), "m"))
        self.assertEqual(steps((1000, 1, 1000, 1, 1000), "mvmv"), (("crimp", 0), ("crimp", 0)))

    def test_each_step_can_be_made_and_behind_the_last_one_none_can(self):
        for lengths, marks in self.each_strip():
            found = steps(lengths, marks)
            self.assertIs(type(found), tuple)
            here = (lengths, marks)
            for step in found:
                self.assertIn(step, steps_by_words(*here))
                self.assertEqual(tuple(map(type, step)), (str, int))
                here = behind_by_words(*here, step)
            self.assertEqual(steps_by_words(*here), ())
            # Where one piece is left the strip folds, and only there.
            self.assertIs(is_foldable(lengths, marks), len(here[0]) == 1)

    def test_a_step_changes_nothing_about_folding(self):
        for lengths, marks in self.each_strip():
            for step in steps_now(lengths, marks):
                left, more = after_step(lengths, marks, step)
                if max(left) <= 1000:
                    self.assertIs(is_foldable(left, more), is_foldable(lengths, marks))

    def test_read_from_its_other_end(self):
        for lengths, marks in self.each_strip():
            other = (lengths[::-1], marks[::-1])
            self.assertIs(is_foldable(*other), is_foldable(lengths, marks))
            self.assertEqual(len(layerings(*other)), len(layerings(lengths, marks)))
            turned = sorted((kind, number) if kind == "end" else (kind, len(marks) - 2 - number)
                            for kind, number in steps_now(*other))
            turned = sorted((kind, 1 - number) if kind == "end" else (kind, number)
                            for kind, number in turned)
            self.assertEqual(tuple(turned), steps_now(lengths, marks))

    def test_steps_that_cannot_be_made(self):
        for lengths, marks in self.each_strip():
            if len(lengths) < 5:
                steps_there = steps_now(lengths, marks)
                for step in [("end", 0), ("end", 1)] + [("crimp", k) for k in range(4)]:
                    if step not in steps_there:
                        self.check_error(
                            Refused, ("value", step), after_step, lengths, marks, step)

    def test_whatever_is_passed_as_a_step(self):
        wrong = ODD_KINDS + (
            ("end", True), ("end", False), ("end", 2), ("end", -1), ("end",), ("end", 0, 0),
            ["end", 0], ("End", 0), (b"end", 0), ("crimp", False), ("crimp", -1), ("crimp", 1),
            ("crimp", None), ("crimp", "0"), ("crimp", (0,)), ("crimp", [0]), (0, "crimp"),
            ("crimp", LARGE), (("crimp", 0),), ("crimp", deep(0)), ("", 0), (None, None),
            (ALIKE, 0), ("crimp", ALIKE), ("end", ALIKE))
        for value in wrong:
            self.check_error(Refused, ("value", value), after_step, (3, 1, 3), "vm", value)
            self.check_error(Refused, ("value", value), after_step, (3,), "", value)
        for value in (("end", 0), ("end", 1), ("crimp", 0)):
            self.check_error(Refused, ("value", value), after_step, (3,), "", value)
        self.assertEqual(after_step((3, 1, 3), "vm", ("crimp", 0)), ((5,), ""))

    def test_true_and_false_are_no_numbers_of_ends(self):
        for value in (("end", True), ("end", False)):
            self.check_error(Refused, ("value", value), after_step, (1, 1), "v", value)

    def test_the_examples_of_the_document(self):
        self.assertIs(is_foldable((3, 1, 3), "vm"), True)
        self.assertIs(is_foldable((3, 1, 3), "vv"), False)
        self.assertEqual(steps((3, 1, 3), "vm"), (("crimp", 0),))


NO_LENGTHS = (
    (((), None), ([1], None), ([], None), ("1", None), (None, None), (True, None), (1, None),
     ({1: 1}, None), (range(1, 3), None), ((1,) * 9, None), ((0,) * 9, None), ((None,) * 99, None))
    + (((0,), 0), ((1001,), 0), ((-1,), 0), ((True,), 0), (("1",), 0), ((None,), 0), (((1,),), 0),
       (([1],), 0), ((1, 0), 1), ((1000, 1001), 1), ((3, 1, 3, True), 3), ((3, False, 3), 1),
       ((1,) * 7 + (0,), 7), ((1,) * 7 + (LARGE,), 7), ((0, 1001), 0), ((5, 1, 0, 0), 2),
       (deep(1), 0), ((5, deep(1)), 1), ((ALIKE,), 0), ((1, ALIKE, 0), 1))
)
NO_LAYERS = (
    (((), None), ((0,), None), ((0, 1), None), ((0, 1, 2, 3), None), ((5, 5), None),
     ((None,) * 4, None), ([0, 1, 2], None), ("012", None), (None, None), (True, None), (2, None),
     (range(3), None), (tuple(range(9)), None), ((0, 0, 0, 0), None))
    + (((0, 1, 3), 2), ((0, 1, 1), 2), ((3, 0, 1), 0), ((-1, 0, 1), 0), ((0, True, 2), 1),
       ((False, 1, 2), 0), ((0, "1", 2), 1), ((0, None, 0), 1), ((0, [1], 2), 1),
       ((0, 0, 9), 1), ((0, 10 ** 59, 0), 1), ((deep(1), 0, 1), 0), ((0, 1, ALIKE), 2))
)


class TestWrong(Signatures, Caller):
    module = module
    lengths = ("lengths", (3, 1, 3), indexes(InvalidLengths, NO_LENGTHS))
    marks = ("marks", "vm", values(InvalidMarks, NO_MARKS + ODD_KINDS + (
        "", "v", "m", "vmv", "vmvmvmv", "vx")))
    table = {
        "stretches": (lengths,),
        "span": (lengths,),
        "is_layering": (lengths, ("layers", (0, 1, 2), indexes(InvalidLayers, NO_LAYERS))),
        "layerings": (lengths, marks),
        "count_layerings": (lengths,),
        "is_foldable": (lengths, marks),
        "steps": (lengths, marks),
        "after_step": (lengths, marks, ("step", ("crimp", 0), values(Refused, [("end", 0), None]))),
        "steps_now": (lengths, marks),
    }

    def test_no_tuples(self):
        for value in ODD_KINDS:
            if type(value) is not tuple:
                self.check_error(InvalidLengths, ("index", None), span, value)
                self.check_error(InvalidLayers, ("index", None), is_layering, (1,), value)

    def test_marks_as_many_as_lengths_less_one(self):
        for many in range(1, 9):
            for other in range(10):
                marks = "mv" * 5
                marks = marks[:other]
                if other == many - 1:
                    self.assertIs(type(is_foldable((1,) * many, marks)), bool)
                else:
                    for act in (layerings, is_foldable, steps, steps_now):
                        self.check_error(InvalidMarks, ("value", marks), act, (1,) * many, marks)

    def test_layers_as_many_as_lengths(self):
        for many in range(1, 9):
            for other in range(10):
                layers = tuple(range(other))
                if other == many:
                    self.assertIs(is_layering((1,) * many, layers), True)
                else:
                    self.check_error(
                        InvalidLayers, ("index", None), is_layering, (1,) * many, layers)

    def test_bounds_are_let_in(self):
        self.assertEqual(span((1000,) * 8), 1000)
        self.assertEqual(count_layerings((1,) * 8), 1392)
        self.assertEqual(steps((1000,), ""), ())


if __name__ == "__main__":
    unittest.main()
