"""Counting and listing rows, and their indexes."""

import unittest
from math import comb

from foldworld.rows import (
    all_rows, count_rows, count_short, count_with_short, index_of_row, nth_row)
from tests.support import rows_by_blocks, rows_by_words

CATALAN = (1, 1, 2, 5, 14, 42, 132, 429, 1430, 4862, 16796, 58786, 208012)


class TestCounts(unittest.TestCase):
    def test_count_rows(self):
        for number, many in enumerate(CATALAN):
            with self.subTest(number):
                self.assertEqual(count_rows(number), many)
                self.assertEqual(count_rows(number), comb(2 * number, number) // (number + 1))
                self.assertIs(type(count_rows(number)), int)

    def test_count_with_short_meets_the_lists(self):
        for number in range(7):
            rows = rows_by_words(number)
            for short in range(13):
                with self.subTest(number=number, short=short):
                    many = sum(row.count("()") == short for row in rows)
                    self.assertEqual(count_with_short(number, short), many)
                    counted = [row for row in all_rows(number) if count_short(row) == short]
                    self.assertEqual(len(counted), many)

    def test_count_with_short_is_narayana(self):
        for number in range(1, 13):
            for short in range(13):
                with self.subTest(number=number, short=short):
                    wanted = 0
                    if short > 0:
                        wanted = comb(number, short) * comb(number, short - 1) // number
                    self.assertEqual(count_with_short(number, short), wanted)
                    self.assertIs(type(count_with_short(number, short)), int)

    def test_count_with_short_of_the_empty_row(self):
        self.assertEqual([count_with_short(0, short) for short in range(13)], [1] + [0] * 12)

    def test_count_with_short_where_there_are_none(self):
        for number in range(1, 13):
            self.assertEqual(count_with_short(number, 0), 0)
            for short in range(number + 1, 13):
                self.assertEqual(count_with_short(number, short), 0)

    def test_count_with_short_adds_up_to_all_rows(self):
        for number in range(13):
            many = sum(count_with_short(number, short) for short in range(13))
            self.assertEqual(many, count_rows(number))


class TestLists(unittest.TestCase):
    def test_all_rows(self):
        for number in range(8):
            with self.subTest(number):
                rows = all_rows(number)
                self.assertIs(type(rows), tuple)
                self.assertEqual(rows, rows_by_words(number))
                self.assertEqual(len(rows), count_rows(number))
                self.assertTrue(all(a < b for a, b in zip(rows, rows[1:])))

    def test_the_empty_row_is_a_row(self):
        self.assertEqual(all_rows(0), ("",))
        self.assertEqual(nth_row(0, 0), "")
        self.assertEqual(index_of_row(""), 0)

    def test_indexes_of_the_lists(self):
        for number in range(8):
            for index, row in enumerate(all_rows(number)):
                self.assertEqual(nth_row(number, index), row)
                self.assertEqual(index_of_row(row), index)

    def test_first_and_last_row(self):
        for number in range(13):
            with self.subTest(number):
                first, last = "(" * number + ")" * number, "()" * number
                self.assertEqual(nth_row(number, 0), first)
                self.assertEqual(index_of_row(first), 0)
                self.assertEqual(nth_row(number, CATALAN[number] - 1), last)
                self.assertEqual(index_of_row(last), CATALAN[number] - 1)

    def test_indexes_where_nothing_is_listed(self):
        for number, step in ((8, 7), (9, 23), (10, 89), (11, 293), (12, 1009)):
            rows = rows_by_blocks(number)
            self.assertEqual(len(rows), CATALAN[number])
            for index in range(0, len(rows), step):
                self.assertEqual(nth_row(number, index), rows[index])
                self.assertEqual(index_of_row(rows[index]), index)

    def test_the_same_question_again(self):
        self.assertEqual(all_rows(5), all_rows(5))
        self.assertEqual(nth_row(12, 77777), nth_row(12, 77777))


if __name__ == "__main__":
    unittest.main()
