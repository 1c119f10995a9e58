"""Rivers, their paths, and candidates that are none."""

import unittest
from itertools import permutations
from random import Random

from foldworld import rivers as module
from foldworld.errors import InvalidPath, InvalidRow, Refused, Unlike
from foldworld.rivers import all_rivers, count_rivers, is_river, meeting, path, river_of
from tests.support import Caller, any_cross, cross, drawn_row, rounds_by_words, rows_by_blocks
from tests.wrong import (
    ALIKE, ODD_KINDS, Signatures, deep, indexes, number, other_row, row)

SMALL = [rows_by_blocks(many) for many in range(5)]
COUNTS = (1, 2, 8, 42, 262, 1828)


def by_words(many):
    """All rivers, by their rounds."""
    return [(upper, lower) for upper in SMALL[many] for lower in SMALL[many]
            if len(rounds_by_words(upper, lower)) == 1]


def sides_of(candidate):
    """The arches of a candidate on the two sides, each lesser number first."""
    pairs = [tuple(sorted((one, other)))
             for one, other in zip(candidate, candidate[1:] + candidate[:1])]
    return pairs[0::2], pairs[1::2]


def drawn_rivers(seed, many):
    """Some great rivers: an upper row, and some lower row with which it makes one round."""
    draw = Random(seed)
    found = []
    while len(found) < many:
        number = draw.randrange(5, 13)
        upper, lower = drawn_row(draw, number), drawn_row(draw, number)
        if len(rounds_by_words(upper, lower)) == 1:
            found.append((upper, lower))
    return found


def drawn_candidates(seed, many):
    """Some candidates of all sizes."""
    draw = Random(seed)
    for _ in range(many):
        rest = list(range(1, 2 * draw.randrange(1, 13)))
        draw.shuffle(rest)
        yield tuple([0] + rest)


LARGE_RIVERS = drawn_rivers(5, 60)


class TestRivers(Caller):
    def test_all_pairs_of_up_to_four_arches(self):
        for rows in SMALL:
            for upper in rows:
                for lower in rows:
                    wanted = len(rounds_by_words(upper, lower)) == 1
                    self.assertIs(is_river(upper, lower), wanted)
                    if not wanted:
                        self.check_error(Refused, ("value", lower), path, upper, lower)

    def test_the_empty_rows_are_no_river(self):
        self.assertIs(is_river("", ""), False)
        self.check_error(Refused, ("value", ""), path, "", "")

    def test_count_rivers(self):
        self.assertEqual(tuple(count_rivers(many) for many in range(1, 7)), COUNTS)
        self.assertIs(type(count_rivers(3)), int)

    def test_all_rivers(self):
        for many in range(1, 6):
            found = all_rivers(many)
            self.assertEqual(len(found), COUNTS[many - 1])
            self.assertEqual(list(found), sorted(set(found)))
            self.assertIs(type(found), tuple)
            for pair in found:
                self.assertIs(type(pair), tuple)
                self.assertIs(is_river(*pair), True)
            if many < 5:
                self.assertEqual(list(found), by_words(many))

    def check_path(self, upper, lower):
        found = path(upper, lower)
        self.assertIs(type(found), tuple)
        self.assertEqual(found[0], 0)
        self.assertEqual(sorted(found), list(range(len(upper))))
        up, low = sides_of(found)
        for arches, text in ((up, upper), (low, lower)):
            self.assertFalse(any_cross(arches))
            for one, other in arches:
                self.assertEqual(text[one] + text[other], "()")
        self.assertEqual(river_of(found), (upper, lower))
        self.assertIsNone(meeting(found))

    def test_path_and_river_of_lead_back_to_one_another(self):
        for many in range(1, 6):
            for upper, lower in all_rivers(many):
                self.check_path(upper, lower)
        for upper, lower in LARGE_RIVERS:
            self.assertIs(is_river(upper, lower), True)
            self.check_path(upper, lower)

    def check_candidate(self, candidate):
        found = river_of(candidate)
        pair = meeting(candidate)
        if not any(any_cross(side) for side in sides_of(candidate)):
            self.assertIsNone(pair)
            self.assertEqual(path(*found), candidate)
            self.assertIs(type(found), tuple)
            return 1
        self.assertIsNone(found)
        one, other = pair
        self.assertIs(type(pair), tuple)
        self.assertIs(type(one), tuple)
        self.assertIs(type(other), tuple)
        self.assertTrue(any(one in side and other in side for side in sides_of(candidate)))
        self.assertTrue(one[0] < one[1] and other[0] < other[1] and cross(one, other))
        return 0

    def test_all_candidates_of_up_to_four_arches(self):
        for many in range(1, 5):
            found = sum(self.check_candidate((0,) + rest)
                        for rest in permutations(range(1, 2 * many)))
            self.assertEqual(found, COUNTS[many - 1])

    def test_drawn_candidates(self):
        for candidate in drawn_candidates(6, 400):
            self.check_candidate(candidate)

    def test_nearly_paths(self):
        draw = Random(7)
        for upper, lower in LARGE_RIVERS:
            near = list(path(upper, lower))
            at, other = draw.sample(range(1, len(near)), 2)
            near[at], near[other] = near[other], near[at]
            self.check_candidate(tuple(near))

    def test_the_last_and_the_first_number_are_an_arch_of_the_lower_side(self):
        # Here (0, 2), the last one, crosses (1, 3), and nothing crosses above.
        self.assertEqual(sorted(meeting((0, 1, 3, 2))), [(0, 2), (1, 3)])
        self.assertIsNone(river_of((0, 1, 3, 2)))
        self.assertEqual(sorted(meeting((0, 2, 1, 3))), [(0, 2), (1, 3)])

    def test_the_examples_of_the_document(self):
        self.assertEqual(count_rivers(4), 42)
        self.assertEqual(path("(())", "()()"), (0, 3, 2, 1))


NO_PATHS = (
    (((), None), ((0,), None), ((0, 1, 2), None), (tuple(range(26)), None),
     (tuple(range(25)), None), ([0, 1], None), ([], None), ("01", None), ({0: 1, 1: 0}, None),
     (range(4), None), (deep(1), None), ((0, 1, True), None), ((None,) * 26, None), (None, None),
     (True, None), (0, None))
    + (((1, 0), 0), ((0, 0), 1), ((0, 2), 1), ((0, -1), 1), ((0, True), 1), ((False, 1), 0),
       ((None, 1), 0), ((0, "1"), 1), ((0, (1,)), 1), ((0, [1]), 1), ((0, 1, 1, 9), 2),
       ((0, 3, 2, 4), 3), ((0, 3, 3, 0), 2), ((0, 3, 0, 3), 2), ((2, 0, 1, 9), 0),
       ((0, 10 ** 59), 1), ((0, deep(1)), 1), ((0, 1, 2, None), 3), ((4, 4, 4, 4), 0),
       (tuple(range(23)) + (24,), 23), (tuple(range(23)) + (22,), 23), ((3, 2, 1, 0), 0),
       ((ALIKE, 1), 0), ((0, ALIKE), 1))
)


class TestWrong(Signatures, Caller):
    module = module
    candidate = ("candidate", (0, 3, 2, 1), indexes(InvalidPath, NO_PATHS))
    table = {
        "is_river": (row("upper", "(())"), other_row("lower", "()()")),
        "count_rivers": (number("number", 3, 1, 6),),
        "all_rivers": (number("number", 3, 1, 5),),
        "path": (row("upper", "(())"), other_row("lower", "()()")),
        "river_of": (candidate,),
        "meeting": (candidate,),
    }

    def test_no_tuples(self):
        for act in (river_of, meeting):
            for value in ODD_KINDS:
                if type(value) is not tuple:
                    self.check_error(InvalidPath, ("index", None), act, value)

    def test_bounds_are_let_in(self):
        self.assertEqual(river_of((0, 1)), ("()", "()"))
        around = tuple(range(24))
        self.assertEqual(river_of(around), ("()" * 12, "(" + "()" * 11 + ")"))

    def test_refused_is_looked_for_at_last(self):
        self.check_error(InvalidRow, ("value", ")("), path, "()()", ")(")
        self.check_error(Unlike, ("value", "()"), path, "()()", "()")
        self.check_error(Refused, ("value", "()()"), path, "()()", "()()")
        for error, value in ((Unlike, ""), (Unlike, "()()()")):
            self.check_error(error, ("value", value), is_river, "()()", value)


if __name__ == "__main__":
    unittest.main()
