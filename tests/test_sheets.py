"""Sheets: a strip folded in halves, deed by deed."""

import unittest
from itertools import product
from random import Random

from foldworld import sheets as module
from foldworld.errors import (
    InvalidNumber, InvalidPlace, InvalidWays, NothingToUndo, Refused, TooMany)
from foldworld.halves import marks
from foldworld.sheets import Sheet
from tests.support import Caller
from tests.wrong import LARGE, ODD_KINDS, Methods, Signatures, beyond, number, values


class Stop(Exception):
    """Raised by what a test passes."""


def other_way(way):
    return "u" if way == "o" else "o"


def turned_over(ways):
    return "".join(other_way(way) for way in ways)


def mark_by_words(many, ways, place):
    """The mark by point [16], of a strip of so many folds of which these are done."""
    j, m = 0, place
    while m % 2 == 0:
        j, m = j + 1, m // 2
    index = many - 1 - j
    if index >= len(ways):
        return "?"
    return "v" if (ways[index] == "o") == (m % 4 == 1) else "m"


def state(sheet):
    return sheet.number, sheet.ways, sheet.changes


def folded(many, ways):
    sheet = Sheet(many)
    for way in ways:
        sheet.fold(way)
    return sheet


class SheetTest(Caller):
    def check_none(self, act):
        """There is nothing to undo."""
        with self.assertRaises(NothingToUndo) as caught:
            act()
        self.assertEqual(vars(caught.exception), {})

    def check_undone(self, sheet, states):
        for kept in reversed(states[:-1]):
            self.assertIsNone(sheet.undo())
            self.assertEqual(state(sheet), kept)
        self.check_none(sheet.undo)
        self.assertEqual(state(sheet), states[0])


class TestDeeds(SheetTest):
    def test_a_new_sheet(self):
        for many in (1, 2, 100):
            sheet = Sheet(many)
            self.assertEqual({name: vars(sheet)[name] for name in ("number", "ways", "changes")},
                             {"number": many, "ways": "", "changes": 0})
            self.check_none(sheet.undo)
            self.assertTrue(sheet)
            self.assertFalse(sheet == Sheet(many))
            self.assertTrue(sheet == sheet)

    def test_fold_and_unfold(self):
        for many in (1, 3, 100):
            sheet = Sheet(many)
            states = [state(sheet)]
            ways = ("ouuo" * 25)[:many]
            for done, way in enumerate(ways):
                self.assertIsNone(sheet.fold(way))
                states.append(state(sheet))
                self.assertEqual(states[-1], (many, ways[:done + 1], done + 1))
            for way in "ou":
                self.check_error(TooMany, ("limit", many), sheet.fold, way)
            for wrong in ("x", "", None, "oo"):
                self.check_error(InvalidWays, ("value", wrong), sheet.fold, wrong)
            self.assertEqual(state(sheet), states[-1])
            for done in range(many):
                self.assertIsNone(sheet.unfold())
                states.append(state(sheet))
                self.assertEqual(states[-1], (many, ways[:many - 1 - done], many + done + 1))
            self.check_error(Refused, ("value", ""), sheet.unfold)
            self.check_undone(sheet, states)

    def test_turn_over(self):
        sheet = folded(4, "oou")
        self.assertIsNone(sheet.turn_over())
        self.assertEqual(state(sheet), (4, "uuo", 4))
        sheet.turn_over()
        self.assertEqual(state(sheet), (4, "oou", 5))
        sheet.undo()
        self.assertEqual(state(sheet), (4, "uuo", 4))

    def test_turn_over_where_nothing_is_done(self):
        sheet = Sheet(2)
        self.check_error(Refused, ("value", ""), sheet.unfold)
        self.assertEqual(sheet.changes, 0)
        sheet.turn_over()
        self.assertEqual(state(sheet), (2, "", 1))
        self.check_error(Refused, ("value", ""), sheet.unfold)
        sheet.undo()
        self.assertEqual(state(sheet), (2, "", 0))
        self.check_none(sheet.undo)

    def test_turn_over_where_all_is_done(self):
        sheet = folded(100, "ou" * 50)
        sheet.turn_over()
        self.assertEqual(state(sheet), (100, "uo" * 50, 101))
        self.check_error(TooMany, ("limit", 100), sheet.fold, "o")

    def test_drawn_deeds(self):
        for seed, many in ((1, 2), (2, 5), (3, 100)):
            draw = Random(seed)
            sheet = Sheet(many)
            states = [state(sheet)]
            for _ in range(300):
                ways = sheet.ways
                deed = draw.choice(("o", "u", "unfold", "over"))
                if deed == "over":
                    sheet.turn_over()
                    wanted = turned_over(ways)
                elif deed == "unfold":
                    if ways == "":
                        self.check_error(Refused, ("value", ""), sheet.unfold)
                        continue
                    sheet.unfold()
                    wanted = ways[:-1]
                else:
                    if len(ways) == many:
                        self.check_error(TooMany, ("limit", many), sheet.fold, deed)
                        continue
                    sheet.fold(deed)
                    wanted = ways + deed
                states.append(state(sheet))
                self.assertEqual(states[-1], (many, wanted, len(states) - 1))
            self.check_undone(sheet, states)

    def test_sheets_keep_their_own_ways(self):
        one, other = Sheet(3), Sheet(3)
        one.fold("o")
        self.assertEqual((state(one), state(other)), ((3, "o", 1), (3, "", 0)))


class TestMarks(SheetTest):
    def test_all_places_of_up_to_six_folds(self):
        for many in range(1, 7):
            for done in range(many + 1):
                for told in product("ou", repeat=done):
                    ways = "".join(told)
                    sheet = folded(many, ways)
                    self.check_marks(sheet, many, ways)
                    if done == many:
                        text = "".join(sheet.mark(place) for place in range(1, 2 ** many))
                        self.assertEqual(text, marks(ways))

    def check_marks(self, sheet, many, ways):
        for place in range(1, 2 ** many):
            self.assertEqual(sheet.mark(place), mark_by_words(many, ways, place))
        self.assertEqual(state(sheet), (many, ways, len(ways)))

    def test_drawn_places_of_a_hundred_folds(self):
        draw = Random(4)
        for done in (0, 1, 2, 50, 98, 99, 100):
            ways = "".join(draw.choice("ou") for _ in range(done))
            sheet = folded(100, ways)
            for fold in range(100):
                place = (2 * draw.randrange(2 ** fold) + 1) << (99 - fold)
                self.assertEqual(sheet.mark(place), mark_by_words(100, ways, place))
                self.assertEqual(sheet.mark(place) == "?", fold >= done)
            self.assertEqual(sheet.mark(1), mark_by_words(100, ways, 1))
            self.assertEqual(sheet.mark(2 ** 100 - 1), mark_by_words(100, ways, 2 ** 100 - 1))

    def test_turned_over_each_mark_is_the_other_one(self):
        other = {"v": "m", "m": "v", "?": "?"}
        sheet = folded(5, "ouo")
        before = [sheet.mark(place) for place in range(1, 32)]
        sheet.turn_over()
        self.assertEqual([sheet.mark(place) for place in range(1, 32)], [other[mark] for mark in before])
        sheet.undo()
        self.assertEqual([sheet.mark(place) for place in range(1, 32)], before)

    def test_an_unfolded_place_has_no_mark(self):
        sheet = folded(2, "ou")
        self.assertEqual([sheet.mark(place) for place in (1, 2, 3)], ["m", "v", "v"])
        sheet.unfold()
        self.assertEqual([sheet.mark(place) for place in (1, 2, 3)], ["?", "v", "?"])
        sheet.unfold()
        self.assertEqual([sheet.mark(place) for place in (1, 2, 3)], ["?", "?", "?"])


class TestTrials(SheetTest):
    def test_all_is_as_it_was(self):
        sheet = folded(4, "ou")
        with sheet.trial() as shown:
            self.assertIs(shown, sheet)
            sheet.fold("o")
            sheet.turn_over()
            self.assertEqual(state(sheet), (4, "uou", 4))
        self.assertEqual(state(sheet), (4, "ou", 2))
        with sheet.trial():
            sheet.undo()
            sheet.undo()
            self.check_none(sheet.undo)
            sheet.fold("u")
        self.assertEqual(state(sheet), (4, "ou", 2))
        self.check_undone(sheet, [(4, "", 0), (4, "o", 1), (4, "ou", 2)])

    def test_an_error_goes_on(self):
        sheet = folded(3, "o")
        for error in (Stop(), KeyboardInterrupt(), NothingToUndo(), SystemExit()):
            with self.assertRaises(type(error)) as caught:
                with sheet.trial():
                    sheet.unfold()
                    raise error
            self.assertIs(caught.exception, error)
            self.assertEqual(state(sheet), (3, "o", 1))
        self.check_undone(sheet, [(3, "", 0), (3, "o", 1)])

    def test_trials_within_trials(self):
        sheet = Sheet(5)
        with sheet.trial():
            sheet.fold("o")
            with sheet.trial():
                sheet.fold("u")
                with self.assertRaises(Stop):
                    with sheet.trial():
                        sheet.undo()
                        sheet.undo()
                        raise Stop
                self.assertEqual(state(sheet), (5, "ou", 2))
            self.assertEqual(state(sheet), (5, "o", 1))
        self.assertEqual(state(sheet), (5, "", 0))

    def test_the_same_one_entered_again(self):
        sheet = Sheet(5)
        trial = sheet.trial()
        sheet.fold("o")
        with trial:
            sheet.fold("u")
            with trial as shown:
                self.assertIs(shown, sheet)
                sheet.turn_over()
                with trial:
                    for _ in range(3):
                        sheet.undo()
                self.assertEqual(state(sheet), (5, "uo", 3))
            self.assertEqual(state(sheet), (5, "ou", 2))
        self.assertEqual(state(sheet), (5, "o", 1))
        with trial:
            sheet.unfold()
        self.check_undone(sheet, [(5, "", 0), (5, "o", 1)])

    def test_tried(self):
        sheet = folded(3, "oo")
        told = object()

        def act(shown):
            self.assertIs(shown, sheet)
            shown.turn_over()
            self.assertEqual(shown.ways, "uu")
            return told

        self.assertIs(sheet.tried(act), told)
        self.assertIs(sheet.tried(act=act), told)
        self.assertIs(sheet.tried(lambda shown: shown.undo()), None)
        self.assertEqual(sheet.tried(lambda shown: (shown.fold("u"), shown.tried(
            lambda held: (held.unfold(), held.ways)), shown.ways)), (None, (None, "oo"), "oou"))
        self.assertEqual(state(sheet), (3, "oo", 2))
        self.check_undone(sheet, [(3, "", 0), (3, "o", 1), (3, "oo", 2)])

    def test_tried_fails(self):
        sheet = folded(2, "ou")
        error = Stop()

        def act(shown):
            shown.undo()
            raise error

        with self.assertRaises(Stop) as caught:
            sheet.tried(act)
        self.assertIs(caught.exception, error)
        self.assertEqual(state(sheet), (2, "ou", 2))
        self.check_error(TooMany, ("limit", 2), sheet.tried, lambda shown: shown.fold("o"))
        self.assertEqual(state(sheet), (2, "ou", 2))


NO_WAY = ("", "x", "oo", "ou", "O", "o ", " u", "o\n", "v", "m", "?", "0", 0, 1, LARGE, ("o",), ["o"],
          {"o": 1}, {"o"}, b"o", "o" * 4000, "\u043e")


class TestWrong(Methods, SheetTest):
    module = module
    listed = Sheet
    table = {
        "fold": (("way", "u", values(InvalidWays, NO_WAY + ODD_KINDS)),),
        "unfold": (),
        "turn_over": (),
        "undo": (),
        "mark": (("place", 5, values(InvalidPlace, beyond(1, 7))),),
        "trial": (),
    }

    def made(self):
        return folded(3, "ou")

    def test_the_class_itself_has_each_method(self):
        for name in ("__init__", "tried"):
            self.assertIn(name, vars(Sheet))

    def test_nothing_else_has_happened(self):
        sheet = self.made()
        for value in NO_WAY:
            self.check_error(InvalidWays, ("value", value), sheet.fold, value)
        for value in beyond(1, 7):
            self.check_error(InvalidPlace, ("value", value), sheet.mark, value)
        self.assertEqual(state(sheet), (3, "ou", 2))

    def test_places_for_each_number_of_folds(self):
        for many in (1, 2, 50, 100):
            sheet = Sheet(many)
            for place in (0, -1, 2 ** many, 2 ** many + 1, True):
                self.check_error(InvalidPlace, ("value", place), sheet.mark, place)
            self.assertEqual(sheet.mark(2 ** many - 1), "?")


class TestWrongNumber(Signatures, Caller):
    module = module
    table = {"Sheet": (number("number", 3, 1, 100),)}

    def test_by_place_and_by_name(self):
        for sheet in (Sheet(3), Sheet(number=3)):
            self.assertEqual(state(sheet), (3, "", 0))

    def test_bounds(self):
        for value in (0, 101, -1, True, "3", None):
            self.check_error(InvalidNumber, ("value", value), Sheet, value)


if __name__ == "__main__":
    unittest.main()
