"""Consoles: each line and its answer, and what is no line."""

import unittest
from random import Random

from foldworld import consoles as module
from foldworld.consoles import Console
from foldworld.decks import order_of
from foldworld.dough import count_rounds as count_raisin_rounds
from foldworld.errors import InvalidLine
from foldworld.halves import marks
from foldworld.rounds import count_rounds
from foldworld.rows import count_rows, index_of_row, mirrored, nth_row, turned
from foldworld.stamps import all_foldings, is_folding, marks_of
from foldworld.tangles import flip, product, strands
from tests.support import NO_ROWS, Caller, drawn_row, rows_by_words
from tests.test_halves import all_ways
from tests.wrong import LARGE, ODD_KINDS, Methods, Signatures, deep, number, values


def some_rows(many):
    """All rows with few arches, some with more."""
    if many < 5:
        return list(rows_by_words(many))
    draw = Random(many)
    return [drawn_row(draw, many) for _ in range(12)]


class ConsoleTest(Caller):
    def check_answer(self, console, line, wanted):
        found = console.say(line)
        self.assertIs(type(found), str)
        self.assertEqual(found, wanted, line)

    def check_none(self, console, line):
        self.check_error(InvalidLine, ("value", line), console.say, line)


class TestLines(ConsoleTest):
    def test_a_console(self):
        for many in (1, 12):
            console = Console(many)
            self.assertEqual(vars(console)["number"], many)
            self.assertTrue(console)
            self.assertFalse(console == Console(many))
            self.assertTrue(console == console)

    def test_rows(self):
        for many in range(1, 13):
            console = Console(many)
            self.check_answer(console, "rows", str(count_rows(many)))
            last = count_rows(many) - 1
            for index in sorted({0, last // 2, last // 3, last}):
                self.check_answer(console, f"row {index}", nth_row(many, index))
            for wrong in (last + 1, last + 2, -1, 10 ** 59, 10 ** 600):
                self.check_none(console, f"row {wrong}")
        self.check_answer(Console(1), "rows", "1")
        self.check_answer(Console(12), "rows", "208012")
        self.check_answer(Console(12), "row 208011", "()" * 12)

    def test_one_row(self):
        for many in range(1, 13):
            console = Console(many)
            for row in some_rows(many):
                self.check_answer(console, f"index {row}", str(index_of_row(row)))
                self.check_answer(console, f"turn {row}", turned(row))
                self.check_answer(console, f"mirror {row}", mirrored(row))
                self.check_answer(console, f"flip {row}", flip(row))
                self.check_answer(console, f"strands {row}", str(strands(row)))

    def test_two_rows(self):
        for many in range(1, 13):
            console = Console(many)
            rows = some_rows(many)
            for one in rows:
                for other in rows:
                    tangle, closed = product(one, other)
                    self.check_answer(console, f"rounds {one} {other}", str(count_rounds(one, other)))
                    self.check_answer(console, f"product {one} {other}", f"{tangle} {closed}")

    def test_rows_with_another_number_of_arches(self):
        for many in (1, 2, 3, 11, 12):
            console = Console(many)
            here = "()" * many
            for row in ("()" * (many + 1), "()" * (many - 1), "", "(" * many, here + "(", ")" + here[1:],
                        here + " ", " " + here, here.replace("(", "["), "x"):
                for word in ("index", "turn", "mirror", "flip", "strands"):
                    self.check_none(console, f"{word} {row}")
                for word in ("rounds", "product"):
                    self.check_none(console, f"{word} {row} {here}")
                    self.check_none(console, f"{word} {here} {row}")
                    self.check_none(console, f"{word} {row} {row}")
        for row in NO_ROWS:
            self.check_none(Console(12), f"turn {row}")

    def test_marks(self):
        console = Console(3)
        self.check_answer(console, "marks 0", "none")
        for many in range(2, 8):
            for layers in all_foldings(many):
                told = "".join(map(str, layers))
                self.check_answer(console, f"marks {told}", marks_of(layers))
        self.check_answer(console, "marks 75310246", "v" * 7)
        for told in ("", "1", "00", "01234567", "012345678", "02", "0 1", "0213", "10a", "8", "12", "-10",
                     "(0,)", "0,1", "\u0660", "1\u0660", "0" * 4000):
            if told == "01234567":
                self.assertTrue(is_folding(tuple(range(8))))
                self.check_answer(console, f"marks {told}", marks_of(tuple(range(8))))
            else:
                self.check_none(console, f"marks {told}")

    def test_halves(self):
        console = Console(1)
        for ways in all_ways(6):
            self.check_answer(console, f"halves {ways}", marks(ways))
        for told in ("", "ooooooo", "uuuuuuu", "x", "O", "ox", "o o", "o" * 4000, "0"):
            self.check_none(console, f"halves {told}")

    def test_decks(self):
        console = Console(2)
        for shuffle in ("out", "in", "fold"):
            for size in (2, 4, 8, 52, 1000):
                self.check_answer(console, f"deck {shuffle} {size}", str(order_of(shuffle, size)))
            for size in ("0", "1", "3", "-2", "1000002", "1000001", "", "x", "02", "2.0", "+2", "2_0",
                         "\u0662", "10" * 30, "2" * 4000):
                self.check_none(console, f"deck {shuffle} {size}")
        self.check_answer(console, "deck in 1000000", str(order_of("in", 10 ** 6)))
        for shuffle in ("", "Out", "mix", "outs", "o", "0"):
            self.check_none(console, f"deck {shuffle} 52")
        for line in ("deck", "deck out", "deck 52", "deck 52 out", "deck out 52 1", "deck out in 52"):
            self.check_none(console, line)

    def test_rounds_of_raisins(self):
        for many in (1, 3, 12):
            console = Console(many)
            for length in list(range(1, 30)) + [199, 200]:
                self.check_answer(console, f"rounds {length}", str(count_raisin_rounds(length)))
            for length in ("0", "201", "-1", "01", "1.", "00", "+1", "1e1", "1_0", "x", "", "9" * 60,
                           "9" * 4000, "\u0661"):
                self.check_none(console, f"rounds {length}")
            row = "()" * many
            self.check_none(console, f"rounds {row}")
            self.check_none(console, f"rounds 1 {row}")
            self.check_none(console, f"rounds {row} 1")
            self.check_none(console, "rounds 1 1")
            self.check_none(console, f"rounds {row} {row} {row}")
            self.check_answer(console, f"rounds {row} {row}", str(many))

    def test_the_examples_of_the_document(self):
        console = Console(2)
        self.check_answer(console, "rounds 6", "9")
        self.check_answer(console, "turn (())", "()()")
        self.check_answer(console, "rounds (()) ()()", "1")
        self.check_answer(console, "marks 1230", "vvm")
        self.check_answer(console, "halves oo", "vvm")
        self.check_answer(console, "deck out 52", "8")
        self.check_answer(Console(3), "product ()()() ()()()", "()()() 1")
        self.check_answer(Console(3), "product ()()() (()())", "()(()) 0")


LINES = ("rows", "row 3", "index (())()", "turn (())()", "mirror (())()", "flip (())()",
         "rounds (())() ()()()", "product (())() ()()()", "strands (())()", "marks 1230", "halves ouo",
         "deck fold 52", "rounds 6")


class TestNoLines(ConsoleTest):
    def test_blanks_and_other_signs(self):
        console = Console(3)
        for line in LINES:
            self.assertIs(type(console.say(line)), str)
            for wrong in (" " + line, line + " ", line.replace(" ", "  ", 1) + "  ", "\t" + line,
                          line + "\n", line + "\t", "\n" + line, line.upper(), line + ".", line + " x",
                          line + " 1", line[1:], line[:-1] + "\u00e4", line + ";", "x " + line):
                self.check_none(console, wrong)
            words = line.split(" ")
            for between in ("  ", "\t", " \t", "\n", ",", ", ", "", "\u00a0", "_"):
                if len(words) > 1:
                    self.check_none(console, between.join(words))
            self.check_none(console, words[0] if len(words) > 1 else "rows rows")

    def test_leading_zeros(self):
        console = Console(3)
        for wrong in ("row 00", "row 01", "row 003", "row +1", "row -1", "row -0", "row 1 ", "row 5",
                      "row 1.0", "row 1e0", "row 0x1", "row one", "row", "row ", "row 1 2", "row \u0661",
                      "deck out 052", "rounds 06", "row " + "0" * 4000, "row " + "1" * 3000):
            self.check_none(console, wrong)
        self.check_answer(console, "row 0", "((()))")
        self.check_answer(console, "row 4", "()()()")

    def test_empty_and_unknown_lines(self):
        console = Console(3)
        for wrong in ("", " ", "  ", "help", "say", "Rows", "rows ", "rowsx", "0", "()", "((()))", "number",
                      "rows 3", "turn", "mirror", "depth ((()))", "mate ((())) 1", "x" * 4000, " " * 4000,
                      "turn " * 800, "rows\x00", "index 1", "strands 1", "none", "marks", "halves"):
            self.check_none(console, wrong)

    def test_what_is_no_string(self):
        console = Console(3)
        for wrong in ODD_KINDS + (0, 1, LARGE, b"rows", ["rows"], ("rows",), {"rows": 1}, {"rows"},
                                  deep("rows"), ("rounds", "6")):
            if type(wrong) is not str:
                self.check_none(console, wrong)


class TestWrong(Methods, ConsoleTest):
    module = module
    listed = Console
    table = {"say": (("line", "rows", values(InvalidLine, ODD_KINDS + ("", "row", 3, LARGE))),)}

    def made(self):
        return Console(3)


class TestWrongNumber(Signatures, Caller):
    module = module
    table = {"Console": (number("number", 3, 1, 12),)}

    def test_by_place_and_by_name(self):
        for console in (Console(3), Console(number=3)):
            self.assertEqual(console.say("rows"), "5")
            self.assertEqual(console.say(line="rows"), "5")


if __name__ == "__main__":
    unittest.main()
