"""Wrong values for each parameter of each function of rows, and how parameters are passed."""

import unittest

from foldworld import rows
from foldworld.errors import InvalidFoot, InvalidIndex, InvalidRow, Refused
from tests.support import Caller
from tests.wrong import LARGE, Signatures, beyond, number, row, values

ROW = row("row", "(())")
FOOT = ("foot", 0, values(InvalidFoot, beyond(0, 3)))
OTHER_FOOT = ("other_foot", 1, values(InvalidFoot, beyond(0, 3)))
NUMBER = number("number", 3, 0, 12)


class TestWrong(Signatures, Caller):
    module = rows
    table = {
        "count_rows": (NUMBER,),
        "all_rows": (number("number", 3, 0, 7),),
        "nth_row": (NUMBER, ("index", 4, values(InvalidIndex, beyond(0, 4)))),
        "index_of_row": (ROW,),
        "mate": (ROW, FOOT),
        "arches": (ROW,),
        "depth": (ROW,),
        "count_short": (ROW,),
        "count_with_short": (NUMBER, number("other_number", 2, 0, 12)),
        "turned": (ROW,),
        "mirrored": (ROW,),
        "blocks": (ROW,),
        "exchanged": (ROW, FOOT, OTHER_FOOT),
        "neighbours": (ROW,),
    }

    def test_bounds_are_let_in(self):
        self.assertEqual(rows.count_rows(12), 208012)
        self.assertEqual(len(rows.all_rows(7)), 429)
        self.assertEqual(rows.nth_row(12, 208011), "()" * 12)
        self.assertEqual(rows.count_with_short(12, 12), 1)
        self.assertEqual(rows.mate("()" * 12, 23), 22)
        self.assertEqual(rows.exchanged("()" * 12, 0, 23), "((" + "()" * 10 + "))")

    def test_an_index_for_each_number(self):
        for many_arches in range(13):
            many = rows.count_rows(many_arches)
            for index in (-1, many, many + 1, True, False, None, LARGE, -LARGE):
                self.check_error(InvalidIndex, ("value", index), rows.nth_row, many_arches, index)

    def test_the_empty_row_has_no_feet(self):
        for foot in (0, 1, -1, False, None):
            self.check_error(InvalidFoot, ("value", foot), rows.mate, "", foot)
            self.check_error(InvalidFoot, ("value", foot), rows.exchanged, "", foot, 0)

    def test_feet_just_beyond_each_row(self):
        for many_arches in range(1, 13):
            text = "()" * many_arches
            for foot in (-1, 2 * many_arches, 2 * many_arches + 1):
                self.check_error(InvalidFoot, ("value", foot), rows.mate, text, foot)
                self.check_error(InvalidFoot, ("value", foot), rows.exchanged, text, foot, 0)
                self.check_error(InvalidFoot, ("value", foot), rows.exchanged, text, 0, foot)

    def test_refused_is_looked_for_at_last(self):
        self.check_error(InvalidFoot, ("value", 4), rows.exchanged, "(())", 0, 4)
        self.check_error(InvalidFoot, ("value", False), rows.exchanged, "(())", 0, False)
        self.check_error(InvalidFoot, ("value", True), rows.exchanged, "(())", True, 1)
        self.check_error(Refused, ("value", 3), rows.exchanged, "(())", 0, 3)

    def test_more_than_twelve_arches_are_no_row(self):
        for text in ("()" * 13, "(" * 13 + ")" * 13, "(" * 2000 + ")" * 2000):
            for name, act, told in self.each():
                if told[0] is ROW:
                    passed = [text] + [it[1] for it in told[1:]]
                    self.check_error(InvalidRow, ("value", text), act, *passed)


if __name__ == "__main__":
    unittest.main()
