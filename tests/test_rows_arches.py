"""The arches of a row, and the rows that come of it."""

import unittest

from foldworld.errors import Refused
from foldworld.rows import (
    all_rows, arches, blocks, count_short, depth, exchanged, index_of_row, mate, mirrored,
    neighbours, nth_row, turned)
from tests.support import (
    Caller, arches_by_words, exchanged_by_words, is_row_by_words, mate_by_words, row_with_arches,
    rows_by_words)

SMALL = [row for number in range(6) for row in rows_by_words(number)]
LARGE = [nth_row(12, index) for index in range(0, 208012, 4001)]


class TestArches(unittest.TestCase):
    def test_mate_from_both_feet(self):
        for row in SMALL + LARGE:
            for foot in range(len(row)):
                other = mate(row, foot)
                self.assertEqual(other, mate_by_words(row, foot))
                self.assertEqual(mate(row, other), foot)

    def test_arches(self):
        for row in SMALL + LARGE:
            self.assertEqual(arches(row), tuple(arches_by_words(row)))
            self.assertEqual(row_with_arches(arches(row)), row)
            self.assertTrue(all(type(arch) is tuple for arch in arches(row)))

    def test_depth(self):
        for row in SMALL + LARGE:
            found = arches_by_words(row)
            wanted = 0
            for foot in range(len(row)):
                around = sum(low < foot < high for low, high in found)
                at = sum(foot in arch for arch in found)
                wanted = max(wanted, around + at)
            self.assertEqual(depth(row), wanted)

    def test_told_depths(self):
        for row, wanted in (("()", 1), ("()()", 1), ("(())", 2), ("()(())()", 2), ("((())())", 3),
                            ("()" * 12, 1), ("(" * 12 + ")" * 12, 12)):
            self.assertEqual(depth(row), wanted)

    def test_count_short(self):
        for row in SMALL + LARGE:
            wanted = sum(high == low + 1 for low, high in arches_by_words(row))
            self.assertEqual(count_short(row), wanted)

    def test_the_empty_row(self):
        self.assertEqual((arches(""), depth(""), count_short("")), ((), 0, 0))
        self.assertEqual((turned(""), mirrored("")), ("", ""))
        self.assertEqual((blocks(""), neighbours("")), ((), ()))


class TestRowsOfRows(Caller):
    def test_turned_keeps_the_arches(self):
        for row in SMALL + LARGE:
            last = len(row) - 1
            moved = [sorted((foot - 1) % (last + 1) for foot in arch) for arch in arches(row)]
            wanted = row_with_arches(sorted(tuple(arch) for arch in moved))
            self.assertEqual(turned(row), wanted)
            self.assertTrue(is_row_by_words(wanted))

    def test_turned_as_often_as_there_are_feet(self):
        for row in SMALL + LARGE:
            came = row
            for _ in row:
                came = turned(came)
            self.assertEqual(came, row)

    def test_mirrored(self):
        other_sign = {"(": ")", ")": "("}
        for row in SMALL + LARGE:
            wanted = "".join(other_sign[sign] for sign in reversed(row))
            self.assertEqual(mirrored(row), wanted)
            self.assertEqual(mirrored(mirrored(row)), row)
            self.assertTrue(is_row_by_words(mirrored(row)))
        self.assertEqual(mirrored("()(())"), "(())()")

    def test_blocks(self):
        for row in SMALL + LARGE:
            found = blocks(row)
            self.assertIs(type(found), tuple)
            self.assertEqual("".join(found), row)
            for block in found:
                self.assertTrue(is_row_by_words(block))
                starts = [end for end in range(len(block) + 1) if is_row_by_words(block[:end])]
                self.assertEqual(starts, [0, len(block)])
        self.assertEqual(blocks("()(()())(())"), ("()", "(()())", "(())"))

    def check_exchanged(self, row, foot, other_foot):
        wanted = exchanged_by_words(row, foot, other_foot)
        if wanted is None:
            self.check_error(Refused, ("value", other_foot), exchanged, row, foot, other_foot)
        else:
            self.assertEqual(exchanged(row, foot, other_foot), wanted)
            self.assertIn(row, neighbours(wanted))

    def test_exchanged_for_all_pairs_of_feet(self):
        for row in SMALL:
            for foot in range(len(row)):
                for other_foot in range(len(row)):
                    self.check_exchanged(row, foot, other_foot)

    def test_exchanged_with_twelve_arches(self):
        for row in LARGE[::9]:
            for foot in range(0, 24, 5):
                for other_foot in range(24):
                    self.check_exchanged(row, foot, other_foot)

    def test_one_arch_is_not_exchanged_with_itself(self):
        for foot, other_foot in ((0, 0), (1, 1), (0, 1), (1, 0)):
            self.check_error(Refused, ("value", other_foot), exchanged, "()", foot, other_foot)

    def test_arches_with_another_one_between_are_not_exchanged(self):
        self.check_error(Refused, ("value", 3), exchanged, "((()))", 0, 3)
        self.check_error(Refused, ("value", 1), exchanged, "(()())()", 6, 1)

    def test_neighbours_are_all_that_come(self):
        for row in SMALL + list(all_rows(6)[::17]) + LARGE[::11]:
            feet = range(len(row))
            came = {exchanged_by_words(row, foot, other) for foot in feet for other in feet}
            self.assertEqual(neighbours(row), tuple(sorted(came - {None})))
            self.assertIs(type(neighbours(row)), tuple)

    def test_neighbours_have_two_other_arches(self):
        for number in range(6):
            for row in all_rows(number):
                near = [
                    other for other in all_rows(number)
                    if len(set(arches(row)) - set(arches(other))) == 2
                ]
                self.assertEqual(neighbours(row), tuple(near))

    def test_neighbours_where_there_are_none(self):
        self.assertEqual(neighbours("()"), ())

    def test_the_examples_of_the_document(self):
        self.assertEqual(all_rows(3), ("((()))", "(()())", "(())()", "()(())", "()()()"))
        self.assertEqual(mate("(()())", 3), 4)
        self.assertEqual(turned("(())"), "()()")
        self.assertEqual(exchanged("(())", 0, 1), "()()")

    def test_what_comes_is_let_in_again(self):
        for row in LARGE[::7]:
            for came in (turned(row), mirrored(row)) + neighbours(row):
                self.assertEqual(nth_row(12, index_of_row(came)), came)


if __name__ == "__main__":
    unittest.main()
