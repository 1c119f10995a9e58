"""Wrong values for each parameter of each function of rows, and how parameters are passed."""

import inspect
import unittest

from foldworld import rows
from foldworld.errors import InvalidFoot, InvalidIndex, InvalidNumber, InvalidRow, Refused
from tests.support import NO_ROWS, OTHER_KINDS, Caller

LARGE = 10 ** 60 - 1


def beyond(most):
    """What is no number up to most."""
    return OTHER_KINDS + (-1, -2, -LARGE, most + 1, most + 2, LARGE, str(most), (most,), [most])


# For each parameter: its name, a value that is let in, the error, and wrong values for it,
# those in front of it being let in.
ROW = ("row", "(())", InvalidRow, OTHER_KINDS + NO_ROWS + (0, 1, -1, LARGE, ("(", ")")))
FOOT = ("foot", 0, InvalidFoot, beyond(3))
OTHER_FOOT = ("other_foot", 1, InvalidFoot, beyond(3))
NUMBER = ("number", 3, InvalidNumber, beyond(12))
FUNCTIONS = {
    "count_rows": (NUMBER,),
    "all_rows": (("number", 3, InvalidNumber, beyond(7)),),
    "nth_row": (NUMBER, ("index", 4, InvalidIndex, beyond(4))),
    "index_of_row": (ROW,),
    "mate": (ROW, FOOT),
    "arches": (ROW,),
    "depth": (ROW,),
    "count_short": (ROW,),
    "count_with_short": (NUMBER, ("other_number", 2, InvalidNumber, beyond(12))),
    "turned": (ROW,),
    "mirrored": (ROW,),
    "blocks": (ROW,),
    "exchanged": (ROW, FOOT, OTHER_FOOT),
    "neighbours": (ROW,),
}


class TestParameters(unittest.TestCase):
    def test_each_function_is_defined_there_with_these_names(self):
        for name, told in FUNCTIONS.items():
            with self.subTest(name):
                act = getattr(rows, name)
                self.assertEqual(act.__module__, "foldworld.rows")
                self.assertEqual(list(inspect.signature(act).parameters), [row[0] for row in told])

    def test_by_place_and_by_name(self):
        for name, told in FUNCTIONS.items():
            act = getattr(rows, name)
            by_place = [row[1] for row in told]
            by_name = {row[0]: row[1] for row in reversed(told)}
            with self.subTest(name):
                self.assertEqual(act(*by_place), act(**by_name))
                self.assertEqual(act(by_place[0], **{row[0]: row[1] for row in told[1:]}),
                                 act(*by_place))


class TestWrong(Caller):
    def test_each_wrong_value_at_each_place(self):
        for name, told in FUNCTIONS.items():
            for at, (parameter, _, error, wrong) in enumerate(told):
                for value in wrong:
                    with self.subTest(name, parameter=parameter, value=value):
                        passed = [row[1] for row in told]
                        passed[at] = value
                        act = getattr(rows, name)
                        self.check_error(error, ("value", value), act, *passed)
                        named = {row[0]: it for row, it in zip(told, passed)}
                        self.check_error(error, ("value", value), act, **named)

    def test_the_first_wrong_one_counts(self):
        for name, told in FUNCTIONS.items():
            for at in range(len(told) - 1):
                for value in told[at][3]:
                    with self.subTest(name, at=at, value=value):
                        later = [object() for _ in told[at + 1:]]
                        passed = [row[1] for row in told[:at]] + [value] + later
                        act = getattr(rows, name)
                        self.check_error(told[at][2], ("value", value), act, *passed)
                        # By name in the other order: the signature's order counts all the same.
                        named = {row[0]: it for row, it in zip(told, passed)}
                        turned = {key: named[key] for key in reversed(named)}
                        self.check_error(told[at][2], ("value", value), act, **turned)

    def test_bounds_are_let_in(self):
        self.assertEqual(rows.count_rows(12), 208012)
        self.assertEqual(len(rows.all_rows(7)), 429)
        self.assertEqual(rows.nth_row(12, 208011), "()" * 12)
        self.assertEqual(rows.count_with_short(12, 12), 1)
        self.assertEqual(rows.mate("()" * 12, 23), 22)
        self.assertEqual(rows.exchanged("()" * 12, 0, 23), "((" + "()" * 10 + "))")

    def test_an_index_for_each_number(self):
        for number in range(13):
            many = rows.count_rows(number)
            for index in (-1, many, many + 1, True, False, None, LARGE, -LARGE):
                self.check_error(InvalidIndex, ("value", index), rows.nth_row, number, index)

    def test_the_empty_row_has_no_feet(self):
        for foot in (0, 1, -1, False, None):
            self.check_error(InvalidFoot, ("value", foot), rows.mate, "", foot)
            self.check_error(InvalidFoot, ("value", foot), rows.exchanged, "", foot, 0)

    def test_feet_just_beyond_each_row(self):
        for number in range(1, 13):
            row = "()" * number
            for foot in (-1, 2 * number, 2 * number + 1):
                self.check_error(InvalidFoot, ("value", foot), rows.mate, row, foot)
                self.check_error(InvalidFoot, ("value", foot), rows.exchanged, row, foot, 0)
                self.check_error(InvalidFoot, ("value", foot), rows.exchanged, row, 0, foot)

    def test_refused_is_looked_for_at_last(self):
        self.check_error(InvalidFoot, ("value", 4), rows.exchanged, "(())", 0, 4)
        self.check_error(InvalidFoot, ("value", False), rows.exchanged, "(())", 0, False)
        self.check_error(InvalidFoot, ("value", True), rows.exchanged, "(())", True, 1)
        self.check_error(Refused, ("value", 3), rows.exchanged, "(())", 0, 3)

    def test_more_than_twelve_arches_are_no_row(self):
        for row in ("()" * 13, "(" * 13 + ")" * 13, "(" * 2000 + ")" * 2000):
            for name in FUNCTIONS:
                if FUNCTIONS[name][0] is ROW:
                    passed = [row] + [told[1] for told in FUNCTIONS[name][1:]]
                    self.check_error(InvalidRow, ("value", row), getattr(rows, name), *passed)

    def test_what_is_passed_is_not_altered(self):
        for value in ([1, 2], {"a": [1]}, ["()", "()"]):
            kept = repr(value)
            self.check_error(InvalidRow, ("value", value), rows.mate, value, value)
            self.check_error(InvalidNumber, ("value", value), rows.nth_row, value, value)
            self.check_error(InvalidFoot, ("value", value), rows.exchanged, "()", 0, value)
            self.assertEqual(repr(value), kept)

    def test_values_nested_twenty_deep(self):
        value = ()
        for _ in range(20):
            value = (value,)
        self.check_error(InvalidRow, ("value", value), rows.depth, value)
        self.check_error(InvalidNumber, ("value", value), rows.count_rows, value)


if __name__ == "__main__":
    unittest.main()
