"""Boards: two rows that are led deed by deed."""

import inspect
import unittest
from random import Random

from foldworld import boards as module
from foldworld.boards import Board, attempt
from foldworld.errors import Busy, InvalidDeeds, InvalidRow, NothingToUndo, Refused, Unlike
from foldworld.rounds import count_rounds
from tests.support import Caller, drawn_row, exchanged_by_words, mate_by_words
from tests.wrong import (
    ALIKE, LARGE, ODD_KINDS, Methods, Signatures, deep, other_row, row, values)


class Stop(Exception):
    """Raised by what a test passes."""


def turned_by_words(text):
    """The first foot is made the last one, each arch keeping its two feet."""
    if text == "":
        return text
    other = mate_by_words(text, 0)
    return text[1:other] + "(" + text[other + 1:] + ")"


def done_by_words(rows, deed):
    """The rows behind a deed, None if it cannot be done."""
    upper, lower = rows
    if deed[0] == "turn":
        return turned_by_words(upper), turned_by_words(lower)
    if deed[0] == "up":
        found = exchanged_by_words(upper, deed[1], deed[2])
        return None if found is None else (found, lower)
    found = exchanged_by_words(lower, deed[1], deed[2])
    return None if found is None else (upper, found)


def drawn_deed(draw, feet):
    kind = draw.choice(("up", "low", "turn"))
    return (kind,) if kind == "turn" else (kind, draw.randrange(feet), draw.randrange(feet))


def state(board):
    return board.upper, board.lower, board.log, board.busy, len(board)


def drawn_board(draw, number):
    return Board(drawn_row(draw, number), drawn_row(draw, number))


def led(draw, number, many):
    """A board, and all its states, behind so many drawn deeds that could be done."""
    board = drawn_board(draw, number)
    states = [state(board)]
    while len(board) < many:
        deed = drawn_deed(draw, 2 * number)
        if done_by_words((board.upper, board.lower), deed) is not None:
            board.do(deed)
            states.append(state(board))
    return board, states


class BoardTest(Caller):
    def check_same(self, board, kept):
        self.assertEqual(state(board), kept)

    def check_plain(self, error, act, *told, **named):
        with self.assertRaises(error) as caught:
            act(*told, **named)
        self.assertIs(type(caught.exception), error)
        self.assertEqual(vars(caught.exception), {})

    def check_undone(self, board, states):
        """The board goes back through all its states, and no further."""
        for kept in reversed(states[:-1]):
            self.assertIsNone(board.undo())
            self.check_same(board, kept)
        self.check_plain(NothingToUndo, board.undo)
        self.check_same(board, states[0])


class TestDeeds(BoardTest):
    def test_a_new_board(self):
        upper, lower = "(())", "()()"
        board = Board(upper, lower)
        self.assertEqual(vars(board)["upper"], upper)
        self.assertEqual(vars(board)["lower"], lower)
        self.assertEqual(vars(board)["log"], ())
        self.assertIs(vars(board)["busy"], False)
        self.assertEqual(len(board), 0)
        self.assertFalse(board)
        self.check_plain(NothingToUndo, board.undo)

    def test_each_deed_on_small_boards(self):
        for number in (1, 2, 3):
            draw = Random(number)
            for _ in range(12):
                upper, lower = drawn_row(draw, number), drawn_row(draw, number)
                deeds = [(kind, foot, other) for kind in ("up", "low")
                         for foot in range(2 * number) for other in range(2 * number)]
                for deed in deeds + [("turn",)]:
                    self.check_deed(upper, lower, deed)

    def check_deed(self, upper, lower, deed):
        board = Board(upper, lower)
        wanted = done_by_words((upper, lower), deed)
        if wanted is None:
            self.check_error(Refused, ("value", deed), board.do, deed)
            self.check_same(board, (upper, lower, (), False, 0))
            return
        self.assertIsNone(board.do(deed))
        self.check_same(board, wanted + ((deed,), False, 1))
        self.assertIs(board.log[0], deed)
        self.assertTrue(board)
        if deed == ("turn",):
            self.assertEqual(count_rounds(*wanted), count_rounds(upper, lower))
        else:
            self.assertEqual(abs(count_rounds(*wanted) - count_rounds(upper, lower)), 1)
        board.undo()
        self.check_same(board, (upper, lower, (), False, 0))
        self.assertFalse(board)

    def test_drawn_deeds_on_great_boards(self):
        draw = Random(81)
        for number in (4, 7, 12):
            board = drawn_board(draw, number)
            states = [state(board)]
            for _ in range(120):
                deed = drawn_deed(draw, 2 * number)
                wanted = done_by_words((board.upper, board.lower), deed)
                log = board.log
                if wanted is None:
                    self.check_error(Refused, ("value", deed), board.do, deed)
                    self.check_same(board, states[-1])
                else:
                    board.do(deed)
                    self.check_same(board, wanted + (log + (deed,), False, len(log) + 1))
                    states.append(state(board))
            self.assertGreater(len(states), 30)
            self.check_undone(board, states)

    def test_what_was_undone_can_be_done_anew(self):
        draw = Random(82)
        board, states = led(draw, 4, 20)
        for _ in range(10):
            board.undo()
        self.check_same(board, states[10])
        board.do(("turn",))
        self.assertEqual(board.log, states[10][2] + (("turn",),))
        self.check_undone(board, states[:11] + [state(board)])

    def test_a_deed_of_one_arch_with_itself_is_refused(self):
        board = Board("(())", "()()")
        for deed in (("up", 0, 0), ("up", 0, 3), ("up", 2, 1), ("low", 3, 3), ("low", 1, 0)):
            self.check_error(Refused, ("value", deed), board.do, deed)
        self.check_same(board, ("(())", "()()", (), False, 0))

    def test_boards_keep_their_own_deeds(self):
        one, other = Board("()", "()"), Board("()", "()")
        one.do(("turn",))
        self.assertEqual((len(one), len(other)), (1, 0))
        self.assertFalse(one == other)
        self.assertTrue(one == one)
        self.assertTrue(one != other)
        self.assertFalse(one == "board")


class TestDoAll(BoardTest):
    def deeds_of(self, seed, many):
        """Some deeds that can be done one behind the other, and the states behind each."""
        board, states = led(Random(seed), 4, many)
        return board.log, states

    def new_board(self, states):
        return Board(states[0][0], states[0][1])

    def test_all_are_done(self):
        for many in (0, 1, 2, 15):
            deeds, states = self.deeds_of(83, many)
            board = self.new_board(states)
            self.assertIsNone(board.do_all(deeds))
            self.check_same(board, states[-1])
            self.check_undone(board, states)

    def test_watch_sees_each_deed_in_its_turn(self):
        deeds, states = self.deeds_of(84, 12)
        board = self.new_board(states)
        seen = []

        def watch(shown, index):
            self.assertIs(shown, board)
            seen.append((index, state(shown)))

        self.assertIsNone(board.do_all(deeds, watch=watch))
        busy = [kept[:3] + (True,) + kept[4:] for kept in states[1:]]
        self.assertEqual(seen, list(enumerate(busy)))
        self.check_same(board, states[-1])
        self.assertIs(board.do_all((), watch=watch), None)
        self.assertEqual(len(seen), 12)

    def test_a_watch_that_is_false_is_called_all_the_same(self):
        calls = []

        class Quiet:
            def __len__(self):
                return 0

            def __call__(self, board, index):
                calls.append(index)

        Board("()", "()").do_all((("turn",), ("turn",)), watch=Quiet())
        self.assertEqual(calls, [0, 1])

    def check_all_taken_back(self, states, error, held, deeds, done):
        """The deeds fail at the one behind so many; a few done before stay."""
        board = self.new_board(states)
        board.do(("turn",))
        board.undo()
        kept = state(board)
        seen = []
        self.check_error(error, held, board.do_all, deeds,
                         watch=lambda shown, index: seen.append((index, len(shown))))
        self.assertEqual(seen, [(index, index + 1) for index in range(done)])
        self.check_same(board, kept)
        self.check_plain(NothingToUndo, board.undo)
        self.check_error(error, held, board.do_all, deeds)
        self.check_same(board, kept)

    def test_what_is_no_deed_at_each_index(self):
        deeds, states = self.deeds_of(85, 8)
        for index in range(9):
            for wrong in (None, ("up", 0), ("up", 0, 8), ("turn", 1), ["turn"], "turn", ("down", 0, 1)):
                told = deeds[:index] + (wrong,) + deeds[index:]
                self.check_all_taken_back(states, InvalidDeeds, ("index", index), told, index)

    def test_a_refused_deed_at_each_index(self):
        deeds, states = self.deeds_of(86, 8)
        for index in range(9):
            wrong = ("low", index % 8, index % 8)
            told = deeds[:index] + (wrong,) + (None,) * 3
            self.check_all_taken_back(states, Refused, ("value", wrong), told, index)

    def test_no_tuple(self):
        board = Board("(())", "()()")
        for deeds in (None, [], [("turn",)], "", "turn", {}, set(), 0, 1, True, range(2), ALIKE):
            self.check_error(InvalidDeeds, ("index", None), board.do_all, deeds)
            self.check_error(InvalidDeeds, ("index", None), board.do_all, deeds=deeds, watch=None)
            self.check_same(board, ("(())", "()()", (), False, 0))

    def test_a_watch_that_fails_at_each_index(self):
        deeds, states = self.deeds_of(87, 8)
        for error in (Stop, KeyError, Busy, GeneratorExit, KeyboardInterrupt, SystemExit):
            for at in range(8):
                board = self.new_board(states)
                told = error()

                def watch(shown, index):
                    self.assertEqual(len(shown), index + 1)
                    if index == at:
                        raise told

                with self.assertRaises(error) as caught:
                    board.do_all(deeds, watch=watch)
                self.assertIs(caught.exception, told)
                self.check_same(board, states[0])
                self.check_plain(NothingToUndo, board.undo)
                board.do_all(deeds)
                self.check_same(board, states[-1])

    def test_a_failing_watch_leaves_what_was_done_before(self):
        board, states = led(Random(88), 5, 6)

        def watch(shown, index):
            raise Stop(index)

        for _ in range(2):
            with self.assertRaises(Stop):
                board.do_all((("turn",),), watch=watch)
            self.check_same(board, states[-1])
        self.check_undone(board, states)

    def test_all_is_refused_while_it_is_at_work(self):
        board = Board("(())", "()()")
        tried = []

        def watch(shown, index):
            kept = state(shown)
            for act in (lambda: shown.do(("turn",)), lambda: shown.do(None), lambda: shown.do_all(()),
                        lambda: shown.do_all(None), lambda: shown.undo(), lambda: shown.trial(),
                        lambda: attempt(shown, len)):
                self.check_plain(Busy, act)
                self.assertEqual(state(shown), kept)
            tried.append(index)

        board.do_all((("turn",), ("turn",)), watch=watch)
        self.assertEqual(tried, [0, 1])
        self.assertIs(board.busy, False)
        self.assertEqual(len(board), 2)

    def test_a_busy_error_goes_on_when_all_are_taken_back(self):
        for act in (lambda shown: shown.do(("turn",)), lambda shown: shown.do_all(()),
                    lambda shown: shown.undo(), lambda shown: shown.trial(),
                    lambda shown: attempt(shown, len)):
            board = Board("(())", "()()")
            self.check_plain(Busy, board.do_all, (("turn",),), watch=lambda shown, index: act(shown))
            self.check_same(board, ("(())", "()()", (), False, 0))

    def test_another_board_is_not_busy(self):
        other = Board("()", "()")
        board = Board("()", "()")
        board.do_all((("turn",),), watch=lambda shown, index: other.do_all((("turn",),)))
        self.assertEqual((len(board), len(other)), (1, 1))


class TestTrials(BoardTest):
    def test_all_is_as_it_was(self):
        board, states = led(Random(89), 4, 6)
        with board.trial() as shown:
            self.assertIs(shown, board)
            board.do_all((("turn",), ("turn",)))
            self.assertEqual(len(board), 8)
        self.check_same(board, states[-1])
        with board.trial():
            for _ in range(6):
                board.undo()
            self.check_plain(NothingToUndo, board.undo)
            board.do(("turn",))
        self.check_same(board, states[-1])
        self.check_undone(board, states)

    def test_an_error_goes_on(self):
        board, states = led(Random(90), 4, 5)
        for error in (Stop(), KeyboardInterrupt(), NothingToUndo()):
            with self.assertRaises(type(error)) as caught:
                with board.trial():
                    board.do(("turn",))
                    raise error
            self.assertIs(caught.exception, error)
            self.check_same(board, states[-1])
        self.check_undone(board, states)

    def test_return_and_break_end_the_rows_too(self):
        board = Board("(())", "(())")

        def left():
            with board.trial():
                board.do(("turn",))
                return board.upper

        self.assertEqual(left(), "()()")
        for _ in range(3):
            with board.trial():
                board.do(("turn",))
                break
        self.check_same(board, ("(())", "(())", (), False, 0))

    def test_trials_within_trials(self):
        board = Board("((()))", "()()()")
        seen = [state(board)]
        with board.trial():
            board.do(("turn",))
            seen.append(state(board))
            with board.trial():
                board.do(("turn",))
                with self.assertRaises(Stop):
                    with board.trial():
                        board.undo()
                        board.undo()
                        raise Stop
                self.assertEqual(len(board), 2)
            self.check_same(board, seen[1])
        self.check_same(board, seen[0])

    def test_the_same_one_entered_again(self):
        board = Board("((()))", "()()()")
        trial = board.trial()
        first = state(board)
        with trial:
            board.do(("turn",))
            second = state(board)
            with trial as shown:
                self.assertIs(shown, board)
                board.do_all((("turn",), ("turn",)))
                third = state(board)
                with trial:
                    board.undo()
                    board.undo()
                    board.undo()
                self.check_same(board, third)
            self.check_same(board, second)
        self.check_same(board, first)
        board.do(("turn",))
        kept = state(board)
        with trial:
            board.undo()
        self.check_same(board, kept)

    def test_the_beginning_is_when_it_is_entered(self):
        board = Board("((()))", "()()()")
        trial = board.trial()
        board.do(("turn",))
        kept = state(board)
        with trial:
            board.do(("turn",))
        self.check_same(board, kept)

    def test_entered_while_the_board_is_busy(self):
        board = Board("((()))", "()()()")
        trial = board.trial()
        seen = []

        def watch(shown, index):
            kept = state(shown)
            with trial as held:
                self.assertIs(held, board)
                seen.append(state(shown))
                self.check_plain(Busy, shown.undo)
                with trial:
                    self.assertIs(shown.busy, True)
            self.assertEqual(state(shown), kept)

        board.do_all((("turn",), ("turn",)), watch=watch)
        self.assertEqual([kept[3:] for kept in seen], [(True, 1), (True, 2)])
        self.assertEqual(len(board), 2)
        self.assertIs(board.busy, False)
        board.undo()
        board.undo()
        self.check_same(board, ("((()))", "()()()", (), False, 0))

    def test_a_do_all_within_a_trial_that_fails(self):
        board, states = led(Random(91), 4, 3)
        trial = board.trial()

        def watch(shown, index):
            with trial:
                raise Stop

        with self.assertRaises(Stop):
            with trial:
                board.do(("turn",))
                board.do_all((("turn",),), watch=watch)
        self.check_same(board, states[-1])
        self.check_undone(board, states)


class TestAttempts(BoardTest):
    def test_what_act_returns(self):
        board, states = led(Random(92), 4, 4)
        told = object()

        def act(shown):
            self.assertIs(shown, board)
            shown.do(("turn",))
            self.assertEqual(len(shown), 5)
            return told

        self.assertIs(attempt(board, act), told)
        self.assertIs(attempt(act=act, board=board), told)
        self.assertIs(attempt(board, lambda shown: None), None)
        self.check_same(board, states[-1])

    def test_act_fails(self):
        board, states = led(Random(93), 4, 4)
        error = Stop()

        def act(shown):
            shown.undo()
            raise error

        with self.assertRaises(Stop) as caught:
            attempt(board, act)
        self.assertIs(caught.exception, error)
        self.check_same(board, states[-1])
        self.check_error(Refused, ("value", ("up", 0, 0)), attempt, board,
                         lambda shown: shown.do(("up", 0, 0)))
        self.check_undone(board, states)

    def test_attempts_within_attempts(self):
        board = Board("(())", "()()")

        def outer(shown):
            shown.do(("turn",))
            inner = attempt(shown, lambda held: (held.do(("turn",)), len(held)))
            return inner, len(shown)

        self.assertEqual(attempt(board, outer), ((None, 2), 1))
        self.check_same(board, ("(())", "()()", (), False, 0))

    def test_signature(self):
        self.assertEqual(attempt.__module__, module.__name__)
        self.assertEqual(list(inspect.signature(attempt).parameters), ["board", "act"])


NO_DEEDS = (
    (), ("up",), ("low", 0), ("turn", 0), ("turn", 0, 1), ("up", 0, 1, 2), ("Up", 0, 1), ("down", 0, 1),
    ("up", 0, 6), ("up", 6, 0), ("up", -1, 0), ("low", 0, -1), ("up", True, 2), ("low", 2, True),
    ("up", 0, False), ("up", "0", 1), ("up", 0, None), ("up", (0,), 1), ("up", [0], 1), (0, "up", 1),
    (None,), (("turn",),), (1, 0, 2), ["turn"], ["up", 0, 2], ("up", 0, 10 ** 59), ("low", LARGE, 0),
    (ALIKE,), (ALIKE, 0, 2), ("up", ALIKE, 2), ("up", 0, ALIKE), "turn", "up", "up 0 2", b"turn",
    deep("turn"), ("",), ("t",), ("turn ",), tuple("turn"), {"turn": 1}, {"turn"}, ("up", 0, 2, None),
)


class TestWrong(Methods, BoardTest):
    module = module
    listed = Board
    table = {
        "do": (("deed", ("turn",), [
            (InvalidDeeds, "index", value, 0) for value in NO_DEEDS + ODD_KINDS]
            + values(Refused, [("up", 0, 5), ("up", 2, 2), ("low", 1, 0)])),),
        "undo": (),
        "trial": (),
    }

    def made(self):
        board = Board("(()())", "()()()")
        board.do(("turn",))
        board.undo()
        return board

    def test_watch_is_passed_by_name_only(self):
        parameters = inspect.signature(vars(Board)["do_all"]).parameters
        self.assertEqual(list(parameters), ["self", "deeds", "watch"])
        self.assertIs(parameters["watch"].kind, inspect.Parameter.KEYWORD_ONLY)
        with self.assertRaises(TypeError):
            self.made().do_all((), None)
        for name in ("__init__", "__len__"):
            self.assertIn(name, vars(Board))

    def test_nothing_else_has_happened(self):
        board = self.made()
        kept = state(board)
        for value in NO_DEEDS:
            self.check_error(InvalidDeeds, ("index", 0), board.do, value)
            self.check_same(board, kept)

    def test_feet_of_each_number_of_arches(self):
        for number in (1, 2, 12):
            board = Board("()" * number, "()" * number)
            for foot in (2 * number, -1, 2 * number + 1):
                self.check_error(InvalidDeeds, ("index", 0), board.do, ("up", 0, foot))
                self.check_error(InvalidDeeds, ("index", 0), board.do, ("low", foot, 0))
            deed = ("low", 2 * number - 1, 0)
            if number == 1:
                self.check_error(Refused, ("value", deed), board.do, deed)
            else:
                board.do(deed)
                self.assertEqual(board.log, (deed,))


class TestWrongRows(Signatures, Caller):
    module = module
    table = {"Board": (row("upper", "(())"), other_row("lower", "()()"))}

    def test_by_place_and_by_name(self):
        for board in (Board("(())", "()()"), Board(lower="()()", upper="(())"),
                      Board("(())", lower="()()")):
            self.assertEqual(state(board), ("(())", "()()", (), False, 0))

    def test_no_arches_are_refused_at_last(self):
        self.check_error(Refused, ("value", ""), Board, "", "")
        self.check_error(Unlike, ("value", "()"), Board, "", "()")
        self.check_error(InvalidRow, ("value", None), Board, "", None)


if __name__ == "__main__":
    unittest.main()
