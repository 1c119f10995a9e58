"""Shelves: rows under names, and wishes that hold behind each change."""

import unittest
from functools import lru_cache
from itertools import combinations
from random import Random

from foldworld import shelves as module
from foldworld.errors import (
    Broken, InUse, InvalidIndex, InvalidName, InvalidRow, InvalidWish, NothingToUndo, UnknownName)
from foldworld.shelves import Shelf
from tests.support import (
    NO_ROWS, Caller, arches_by_words, drawn_row, exchanged_by_words, rounds_by_words, rows_by_words)
from tests.test_boards import turned_by_words
from tests.wrong import ALIKE, LARGE, ODD_KINDS, Methods, deep, values


class Stop(Exception):
    """Raised by what a test passes."""


class Alike:
    """Equals each name."""

    def __eq__(self, other):
        return True

    def __hash__(self):
        return hash("a")


KINDS = {"rounds": (2, 1), "river": (2, 0), "short": (1, 1), "depth": (1, 1), "near": (2, 0),
         "strands": (1, 1), "alike": (2, 0)}
# What may stand in the place of a name, and is none.
NO_NAMES = (
    "", "A", "aB", "a ", " a", "a1", "a-b", "abcdefghi", "a\n", "\u00e4", "_", "a" * 4000, b"a", 0, 1,
    -1, LARGE, None, True, False, (), ("a",), ["a"], [], {}, {"a": 1}, set(), {"a"}, object(), int,
    range(3), deep("a"), [["a"]], frozenset({"a"}), ALIKE, Alike())


def depth_by_words(row):
    """The greatest number of arches around, or at, one foot."""
    found = arches_by_words(row)
    return max((sum(low <= foot <= high for low, high in found) for foot in range(len(row))), default=0)


def strands_by_words(row):
    half = len(row) // 2
    return sum(low < half <= high for low, high in arches_by_words(row))


@lru_cache(None)
def turns_by_words(row):
    found = [row]
    for _ in row:
        found.append(turned_by_words(found[-1]))
    return found


@lru_cache(None)
def near_by_words(row):
    """All rows that come by one exchange: of the first feet of two arches."""
    feet = [low for low, _ in arches_by_words(row)]
    return {exchanged_by_words(row, one, two) for one, two in combinations(feet, 2)} - {None}


def holds_by_words(wish, rows):
    """Whether a wish holds, by point [8] of the interface's words."""
    names = wish[1:1 + KINDS[wish[0]][0]]
    if any(type(name) is not str or name not in rows for name in names):
        return False
    found = [rows[name] for name in names]
    if len({len(row) for row in found}) > 1:
        return False
    row, other, last = found[0], found[-1], wish[-1]
    return {
        "rounds": lambda: len(rounds_by_words(row, other)) == last,
        "river": lambda: len(rounds_by_words(row, other)) == 1,
        "short": lambda: sum(low + 1 == high for low, high in arches_by_words(row)) >= last,
        "depth": lambda: depth_by_words(row) <= last,
        "near": lambda: other in near_by_words(row),
        "strands": lambda: strands_by_words(row) == last,
        "alike": lambda: other in turns_by_words(row),
    }[wish[0]]()


def state(shelf):
    return (shelf.names, shelf.wishes, shelf.changes, len(shelf),
            tuple(shelf[name] for name in shelf.names))


def made_shelf(rows, wishes=()):
    shelf = Shelf()
    for name, row in rows.items():
        shelf[name] = row
    for wish in wishes:
        shelf.wish(wish)
    return shelf


def rows_on(shelf):
    return {name: shelf[name] for name in shelf.names}


def put(shelf, name, row):
    shelf[name] = row


def at(shelf, name):
    return shelf[name]


class ShelfTest(Caller):
    def check_none(self, act):
        with self.assertRaises(NothingToUndo) as caught:
            act()
        self.assertEqual(vars(caught.exception), {})

    def check_undone(self, shelf, states):
        for kept in reversed(states[:-1]):
            self.assertIsNone(shelf.undo())
            self.assertEqual(state(shelf), kept)
        self.check_none(shelf.undo)
        self.assertEqual(state(shelf), states[0])


class TestNames(ShelfTest):
    def test_a_new_shelf(self):
        shelf = Shelf()
        self.assertEqual({name: vars(shelf)[name] for name in ("names", "wishes", "changes")},
                         {"names": (), "wishes": (), "changes": 0})
        self.assertEqual(len(shelf), 0)
        self.assertFalse(shelf)
        self.check_none(shelf.undo)
        self.assertFalse(shelf == Shelf())
        self.assertTrue(shelf == shelf)

    def test_putting_and_getting(self):
        shelf = Shelf()
        row = "(())"
        shelf["b"] = row
        self.assertIs(shelf["b"], row)
        self.assertTrue(shelf)
        shelf["abcdefgh"] = ""
        shelf["a"] = "()" * 12
        shelf["z"] = "()"
        self.assertEqual(shelf.names, ("a", "abcdefgh", "b", "z"))
        self.assertEqual((len(shelf), shelf.changes), (4, 4))
        shelf["b"] = "()()"
        self.assertEqual(shelf["b"], "()()")
        self.assertEqual(state(shelf), (("a", "abcdefgh", "b", "z"), (), 5, 4,
                                        ("()" * 12, "", "()()", "()")))
        for name in ("a", "abcdefgh", "b", "z"):
            self.assertIs(name in shelf, True)
        self.check_undone(shelf, [
            ((), (), 0, 0, ()), (("b",), (), 1, 1, ("(())",)),
            (("abcdefgh", "b"), (), 2, 2, ("", "(())")),
            (("a", "abcdefgh", "b"), (), 3, 3, ("()" * 12, "", "(())")),
            (("a", "abcdefgh", "b", "z"), (), 4, 4, ("()" * 12, "", "(())", "()")),
            state(shelf)])

    def test_what_is_no_name_there(self):
        shelf = made_shelf({"a": "()", "b": "(())"})
        kept = state(shelf)
        for value in NO_NAMES + ("c", "ab", "aa", "names"):
            self.assertIs(value in shelf, False)
            self.assertIs(value not in shelf, True)
            self.check_error(UnknownName, ("value", value), at, shelf, value)
            self.check_error(UnknownName, ("value", value), shelf.drop, value)
            self.check_error(UnknownName, ("value", value), shelf.turn, value)
        self.assertEqual(state(shelf), kept)

    def test_wrong_names_and_rows(self):
        shelf = made_shelf({"a": "()"})
        kept = state(shelf)
        for name in NO_NAMES:
            self.check_error(InvalidName, ("value", name), put, shelf, name, "()")
            self.check_error(InvalidName, ("value", name), put, shelf, name, None)
        for row in ODD_KINDS + NO_ROWS + (0, LARGE, ("(", ")")):
            for name in ("a", "b"):
                self.check_error(InvalidRow, ("value", row), put, shelf, name, row)
        self.assertEqual(state(shelf), kept)

    def test_drop(self):
        shelf = made_shelf({"b": "()", "a": "(())", "c": ""})
        states = [state(shelf)]
        for name, names in (("b", ("a", "c")), ("c", ("a",)), ("a", ())):
            self.assertIsNone(shelf.drop(name))
            states.append(state(shelf))
            self.assertEqual((shelf.names, len(shelf)), (names, len(names)))
            self.assertIs(name in shelf, False)
            self.check_error(UnknownName, ("value", name), shelf.drop, name)
        self.assertFalse(shelf)
        self.assertEqual(shelf.changes, 6)
        for kept in reversed(states[:-1]):
            shelf.undo()
            self.assertEqual(state(shelf), kept)

    def test_turn(self):
        draw = Random(101)
        shelf = made_shelf({"a": drawn_row(draw, 6), "b": "()()", "e": ""})
        states = [state(shelf)]
        for name in "abeabaab":
            row = shelf[name]
            self.assertIsNone(shelf.turn(name))
            self.assertEqual(shelf[name], turned_by_words(row))
            states.append(state(shelf))
            self.assertEqual(shelf.changes, states[-2][2] + 1)
        for kept in reversed(states[:-1]):
            shelf.undo()
            self.assertEqual(state(shelf), kept)

    def test_shelves_keep_their_own_rows(self):
        one, other = Shelf(), Shelf()
        one["a"] = "()"
        self.assertEqual((len(one), len(other), other.names), (1, 0, ()))


class TestWishes(ShelfTest):
    def check_wish(self, shelf, wish):
        """The wish is taken if it holds, and Broken tells the number of the others if not."""
        kept = state(shelf)
        if holds_by_words(wish, rows_on(shelf)):
            self.assertIsNone(shelf.wish(wish))
            self.assertIs(shelf.wishes[-1], wish)
            self.assertEqual(state(shelf), (kept[0], kept[1] + (wish,), kept[2] + 1) + kept[3:])
            shelf.undo()
            self.assertEqual(state(shelf), kept)
            return True
        self.check_error(Broken, ("index", len(kept[1])), shelf.wish, wish)
        self.assertEqual(state(shelf), kept)
        return False

    def test_wishes_about_one_row(self):
        for many in range(5):
            for row in rows_by_words(many):
                shelf = made_shelf({"a": row})
                for kind in ("short", "depth", "strands"):
                    taken = [self.check_wish(shelf, (kind, "a", n)) for n in range(13)]
                    self.assertIn(True, taken)

    def test_wishes_about_two_rows(self):
        rows = [row for many in range(4) for row in rows_by_words(many)]
        seen = set()
        for row in rows:
            for other in rows:
                shelf = made_shelf({"a": row, "b": other})
                for kind in ("river", "near", "alike"):
                    seen.add((kind, self.check_wish(shelf, (kind, "a", "b"))))
                for n in (0, 1, 2, 3, 12):
                    seen.add(("rounds", self.check_wish(shelf, ("rounds", "a", "b", n))))
        self.assertEqual(len(seen), 8)

    def test_wishes_about_drawn_rows(self):
        draw = Random(102)
        seen = set()
        for many in (4,) * 30 + (5,) * 30 + (6,) * 20 + (12,) * 2:
            rows = {"a": drawn_row(draw, many)}
            near = sorted(near_by_words(rows["a"]))
            rows["b"] = draw.choice(near)
            rows["c"] = draw.choice(turns_by_words(rows["a"]))
            rows["d"] = drawn_row(draw, many)
            shelf = made_shelf(rows)
            for name in "bcd":
                for one, other in (("a", name), (name, "a")):
                    for kind in ("river", "near", "alike"):
                        seen.add((kind, self.check_wish(shelf, (kind, one, other))))
                    rounds = len(rounds_by_words(rows[one], rows[other]))
                    for n in (rounds, rounds - 1, 12):
                        self.check_wish(shelf, ("rounds", one, other, n))
        self.assertEqual(len(seen), 6)

    def test_a_row_and_itself(self):
        shelf = made_shelf({"a": "(())", "e": ""})
        self.assertEqual([self.check_wish(shelf, wish) for wish in (
            ("alike", "a", "a"), ("near", "a", "a"), ("river", "a", "a"), ("rounds", "a", "a", 2),
            ("alike", "e", "e"), ("near", "e", "e"), ("river", "e", "e"), ("rounds", "e", "e", 0),
            ("short", "e", 0), ("short", "e", 1), ("depth", "e", 0), ("strands", "e", 0),
        )], [True, False, False, True, True, False, False, True, True, False, True, True])

    def test_rows_with_unlike_numbers_of_arches(self):
        shelf = made_shelf({"a": "()", "b": "(())", "c": "()()", "e": ""})
        for one, other in (("a", "b"), ("b", "a"), ("c", "a"), ("e", "a"), ("a", "e")):
            for wish in [(kind, one, other) for kind in ("river", "near", "alike")] + [
                    ("rounds", one, other, n) for n in range(4)]:
                self.assertIs(self.check_wish(shelf, wish), False)

    def test_any_values_as_a_and_b(self):
        shelf = made_shelf({"a": "()", "b": "()"}, [("river", "a", "b")])
        kept = state(shelf)
        for value in NO_NAMES + ("c", "names"):
            for wish in (
                    ("rounds", value, "a", 1), ("rounds", "a", value, 1), ("river", value, value),
                    ("short", value, 0), ("depth", value, 12), ("near", "a", value),
                    ("near", value, "a"), ("strands", value, 1), ("alike", value, "b"),
                    ("alike", "b", value)):
                self.check_error(Broken, ("index", 1), shelf.wish, wish)
        self.assertEqual(state(shelf), kept)

    def test_the_same_wish_twice(self):
        shelf = made_shelf({"a": "()"})
        wish = ("short", "a", 1)
        shelf.wish(wish)
        shelf.wish(wish)
        self.assertEqual((shelf.wishes, shelf.changes), ((wish, wish), 3))
        self.check_error(Broken, ("index", 0), put, shelf, "a", "")
        shelf.lift(0)
        self.check_error(Broken, ("index", 0), put, shelf, "a", "")
        shelf.lift(0)
        put(shelf, "a", "")
        self.assertEqual(shelf["a"], "")

    def test_lift(self):
        wishes = [("short", "a", n) for n in range(3)]
        shelf = made_shelf({"a": "()()()"}, wishes)
        states = [state(shelf)]
        for index, left in ((1, (0, 2)), (1, (0,)), (0, ())):
            self.assertIsNone(shelf.lift(index))
            states.append(state(shelf))
            self.assertEqual(shelf.wishes, tuple(wishes[n] for n in left))
            for wrong in (len(left), len(left) + 1, -1, -2, True, False, None, "0", 0 if not left else 9):
                self.check_error(InvalidIndex, ("value", wrong), shelf.lift, wrong)
        self.assertEqual(shelf.changes, 7)
        for kept in reversed(states[:-1]):
            shelf.undo()
            self.assertEqual(state(shelf), kept)


class TestBroken(ShelfTest):
    def test_the_first_wish_that_would_not_hold(self):
        wishes = [("short", "b", 1), ("depth", "a", 2), ("river", "a", "b"), ("rounds", "b", "a", 1),
                  ("near", "a", "b"), ("strands", "a", 2), ("alike", "a", "b")]
        shelf = made_shelf({"a": "(())", "b": "()()"}, wishes)
        kept = state(shelf)
        for name in "ab":
            for row in [row for many in range(4) for row in rows_by_words(many)]:
                rows = {**rows_on(shelf), name: row}
                broken = [index for index, wish in enumerate(wishes) if not holds_by_words(wish, rows)]
                if broken:
                    self.check_error(Broken, ("index", broken[0]), put, shelf, name, row)
                else:
                    put(shelf, name, row)
                    shelf.undo()
                self.assertEqual(state(shelf), kept)
        self.check_error(Broken, ("index", 2), shelf.turn, "a")
        self.check_error(Broken, ("index", 2), shelf.turn, "b")
        self.assertEqual(state(shelf), kept)

    def test_turning_both_breaks_on_the_way(self):
        shelf = made_shelf({"a": "(())", "b": "()()"}, [("river", "a", "b")])
        self.check_error(Broken, ("index", 0), shelf.turn, "a")
        shelf.lift(0)
        shelf.turn("a")
        shelf.turn("b")
        shelf.wish(("river", "a", "b"))
        self.assertEqual(shelf.wishes, (("river", "a", "b"),))

    def test_in_use(self):
        wishes = [("short", "a", 1), ("river", "b", "c"), ("depth", "c", 2), ("alike", "d", "b"),
                  ("depth", "depth", 5)]
        shelf = made_shelf({"a": "()()", "b": "(())", "c": "()()", "d": "(())", "depth": "()",
                            "river": "()", "short": "()"}, wishes)
        kept = state(shelf)
        for name, index in (("a", 0), ("b", 1), ("c", 1), ("d", 3), ("depth", 4)):
            self.check_error(InUse, ("index", index), shelf.drop, name)
        self.assertEqual(state(shelf), kept)
        # The word of a wish is not one of its names.
        shelf.drop("river")
        shelf.drop("short")
        shelf.lift(1)
        self.check_error(InUse, ("index", 1), shelf.drop, "c")
        self.check_error(InUse, ("index", 2), shelf.drop, "b")
        shelf.lift(2)
        shelf.drop("b")
        self.assertEqual(shelf.names, ("a", "c", "d", "depth"))

    def test_drawn_deeds(self):
        draw = Random(103)
        shelf = Shelf()
        states, seen = [state(shelf)], set()
        for _ in range(1500):
            seen.add(self.check_drawn_deed(draw, shelf))
            if shelf.changes >= len(states):
                states.append(state(shelf))
            self.assertEqual(shelf.changes, len(states) - 1)
            self.assertTrue(all(holds_by_words(wish, rows_on(shelf)) for wish in shelf.wishes))
        self.assertEqual(len(seen), 10)
        self.check_undone(shelf, states)

    def check_drawn_deed(self, draw, shelf):
        rows, wishes, kept = rows_on(shelf), shelf.wishes, state(shelf)
        name = draw.choice("abc")
        kind = draw.choice(("put", "put", "turn", "drop", "wish", "wish", "wish", "lift"))
        if kind == "wish":
            word = draw.choice(list(KINDS))
            names, numbers = KINDS[word]
            wish = (word,) + tuple(draw.choice("abc") for _ in range(names))
            wish += (draw.randrange(4),) * numbers
            if holds_by_words(wish, rows) and len(wishes) < 4:
                shelf.wish(wish)
                self.assertEqual(state(shelf)[:3], (kept[0], wishes + (wish,), kept[2] + 1))
                return "wish"
            if not holds_by_words(wish, rows):
                self.check_error(Broken, ("index", len(wishes)), shelf.wish, wish)
            self.assertEqual(state(shelf), kept)
            return "no wish"
        if kind == "lift":
            index = draw.randrange(len(wishes) + 1)
            if index == len(wishes):
                self.check_error(InvalidIndex, ("value", index), shelf.lift, index)
                return "no lift"
            shelf.lift(index)
            self.assertEqual(shelf.wishes, wishes[:index] + wishes[index + 1:])
            return "lift"
        if kind == "drop":
            having = [index for index, wish in enumerate(wishes) if name in wish[1:3]]
            if name in rows and not having:
                shelf.drop(name)
                del rows[name]
                self.assertEqual(rows_on(shelf), rows)
                return "drop"
            error, held = (InUse, ("index", having[0])) if having else (UnknownName, ("value", name))
            self.check_error(error, held, shelf.drop, name)
            self.assertEqual(state(shelf), kept)
            return error
        if kind == "turn" and name not in rows:
            self.check_error(UnknownName, ("value", name), shelf.turn, name)
            return "no turn"
        row = turned_by_words(rows[name]) if kind == "turn" else drawn_row(draw, draw.choice((2, 3, 3)))
        rows[name] = row
        broken = [index for index, wish in enumerate(wishes) if not holds_by_words(wish, rows)]
        act = (lambda: shelf.turn(name)) if kind == "turn" else (lambda: put(shelf, name, row))
        if broken:
            self.check_error(Broken, ("index", broken[0]), act)
            self.assertEqual(state(shelf), kept)
            return "broken"
        self.assertIsNone(act())
        self.assertEqual((rows_on(shelf), shelf.wishes), (rows, wishes))
        return "put"


class TestTrials(ShelfTest):
    def made(self):
        return made_shelf({"a": "(())", "b": "()()"}, [("river", "a", "b"), ("depth", "a", 2)])

    def test_all_is_as_it_was(self):
        shelf = self.made()
        kept = state(shelf)
        with shelf.trial() as shown:
            self.assertIs(shown, shelf)
            shelf.lift(0)
            shelf["b"] = "(())"
            shelf["c"] = "()"
            shelf.wish(("short", "c", 1))
            shelf.lift(0)
            shelf.turn("a")
            shelf.drop("a")
            self.assertEqual(shelf.names, ("b", "c"))
        self.assertEqual(state(shelf), kept)
        with shelf.trial():
            for _ in range(4):
                shelf.undo()
            self.check_none(shelf.undo)
            shelf["z"] = ""
        self.assertEqual(state(shelf), kept)
        self.check_undone(shelf, [
            ((), (), 0, 0, ()), (("a",), (), 1, 1, ("(())",)), (("a", "b"), (), 2, 2, ("(())", "()()")),
            (("a", "b"), (("river", "a", "b"),), 3, 2, ("(())", "()()")), kept])

    def test_an_error_goes_on(self):
        shelf = self.made()
        kept = state(shelf)
        for error in (Stop(), KeyboardInterrupt(), UnknownName(3), SystemExit()):
            with self.assertRaises(type(error)) as caught:
                with shelf.trial():
                    shelf.lift(1)
                    shelf["c"] = "()"
                    raise error
            self.assertIs(caught.exception, error)
            self.assertEqual(state(shelf), kept)

    def test_the_same_one_entered_again(self):
        shelf = Shelf()
        trial = shelf.trial()
        shelf["a"] = "()"
        first = state(shelf)
        with trial:
            shelf["b"] = "(())"
            second = state(shelf)
            with trial as shown:
                self.assertIs(shown, shelf)
                shelf.drop("a")
                third = state(shelf)
                with self.assertRaises(Stop):
                    with trial:
                        for _ in range(3):
                            shelf.undo()
                        raise Stop
                self.assertEqual(state(shelf), third)
            self.assertEqual(state(shelf), second)
        self.assertEqual(state(shelf), first)
        with trial:
            shelf.turn("a")
        self.check_undone(shelf, [((), (), 0, 0, ()), first])

    def test_tried(self):
        shelf = self.made()
        kept = state(shelf)
        told = object()

        def act(shown):
            self.assertIs(shown, shelf)
            shown["c"] = "()"
            shown.tried(lambda held: held.drop("c"))
            self.assertIn("c", shown)
            return told

        self.assertIs(shelf.tried(act), told)
        self.assertIs(shelf.tried(act=act), told)
        self.assertEqual(shelf.tried(lambda shown: (shown.undo(), len(shown.wishes))), (None, 1))
        self.assertEqual(state(shelf), kept)

    def test_tried_fails(self):
        shelf = self.made()
        kept = state(shelf)
        error = Stop()

        def act(shown):
            shown.lift(0)
            raise error

        with self.assertRaises(Stop) as caught:
            shelf.tried(act)
        self.assertIs(caught.exception, error)
        self.check_error(Broken, ("index", 0), shelf.tried, lambda shown: shown.turn("a"))
        self.assertEqual(state(shelf), kept)


NO_WISHES = (
    (), ("river",), ("river", "a"), ("river", "a", "b", 1), ("rounds", "a", "b"), ("rounds", "a", 1),
    ("rounds", "a", "b", 1, 1), ("rounds", "a", "b", 13), ("rounds", "a", "b", -1),
    ("rounds", "a", "b", True), ("rounds", "a", "b", "1"), ("rounds", "a", "b", None),
    ("rounds", "a", "b", (1,)), ("rounds", "a", "b", LARGE), ("rounds", "a", "b", ALIKE),
    ("short", "a"), ("short", "a", 13), ("short", "a", -1), ("short", "a", False), ("short", "a", "b", 1),
    ("depth", "a"), ("depth", "a", 13), ("depth", "a", True), ("depth", "a", "b"), ("near", "a"),
    ("near", "a", "b", "c"), ("strands", "a"), ("strands", "a", -1), ("strands", "a", 1, 1),
    ("alike", "a"), ("alike", "a", "a", 1), ("Alike", "a", "a"), ("like", "a", "a"), ("", "a", "a"),
    (None, "a", "a"), (1, "a", 1), (ALIKE, "a", "b"), (("river",), "a", "b"), (["river"], "a", "b"),
    ["river", "a", "b"], "river", "river a b", b"river", ("turn", "a"), deep("river"), {"river": 1},
    ("rounds",) * 4000, ("river ", "a", "b"),
)


class TestWrong(Methods, ShelfTest):
    module = module
    listed = Shelf
    table = {
        "drop": (("name", "c", values(UnknownName, NO_NAMES + ("d", "aa"))),),
        "wish": (("wish", ("alike", "a", "b"), values(InvalidWish, NO_WISHES + ODD_KINDS)),),
        "lift": (("index", 0, values(InvalidIndex, ODD_KINDS + (1, 2, -1, -2, LARGE, -LARGE))),),
        "turn": (("name", "c", values(UnknownName, NO_NAMES + ("d", "aa"))),),
        "undo": (),
        "trial": (),
    }

    def made(self):
        return made_shelf({"a": "(())", "b": "()()", "c": "()"}, [("river", "a", "b")])

    def test_the_class_itself_has_each_method(self):
        for name in ("__init__", "__len__", "__contains__", "__getitem__", "__setitem__", "tried"):
            self.assertIn(name, vars(Shelf))

    def test_nothing_else_has_happened(self):
        shelf = self.made()
        kept = state(shelf)
        for wish in NO_WISHES:
            self.check_error(InvalidWish, ("value", wish), shelf.wish, wish)
        for index in (-1, 1, None):
            self.check_error(InvalidIndex, ("value", index), shelf.lift, index)
        self.assertEqual(state(shelf), kept)

    def test_broken_is_looked_for_at_last(self):
        shelf = self.made()
        self.check_error(InvalidName, ("value", "A"), put, shelf, "A", "x")
        self.check_error(InvalidRow, ("value", "x"), put, shelf, "a", "x")
        self.check_error(InvalidWish, ("value", ("depth", "no", 13)), shelf.wish, ("depth", "no", 13))
        self.check_error(Broken, ("index", 1), shelf.wish, ("depth", "no", 12))


if __name__ == "__main__":
    unittest.main()
