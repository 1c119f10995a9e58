"""Raisins in dough: their courses, fractions and rounds."""

import unittest
from fractions import Fraction
from itertools import product
from math import gcd
from random import Random

from foldworld import dough as module
from foldworld.dough import (
    all_rounds, count_rounds, course_of, doubled, forces, fraction_of, greatest_turn, is_ahead,
    is_less, is_round, letter_at, order_of_round, places_of, shortened)
from foldworld.errors import (
    InvalidCourse, InvalidFraction, InvalidLoop, NotARound, TooMany)
from tests.support import Caller
from tests.wrong import ALIKE, LARGE, ODD_KINDS, Signatures, deep, number, values

MANY = 200


def words(least, most):
    return ["".join(told) for many in range(least, most + 1) for told in product("lr", repeat=many)]


def drawn_courses(seed, many, most):
    draw = Random(seed)
    return [("".join(draw.choice("lr") for _ in range(draw.randrange(most + 1))),
             "".join(draw.choice("lr") for _ in range(draw.randrange(1, most + 1))))
            for _ in range(many)]


def row_of(course):
    """The beginning of the endless row: more than two rows can be alike without being the same."""
    lead, loop = course
    return (lead + loop * MANY)[:MANY]


def is_less_by_words(row, other):
    for at, (one, two) in enumerate(zip(row, other)):
        if one != two:
            return (one == "l") == (row[:at].count("r") % 2 == 0)
    return False


def moved(place, letter):
    return 2 * place if letter == "l" else 2 - 2 * place


def as_fraction(pair):
    assert type(pair) is tuple and list(map(type, pair)) == [int, int]
    assert pair[1] > 0 and gcd(*pair) == 1
    return Fraction(*pair)


def as_pair(fraction):
    return fraction.numerator, fraction.denominator


def turns(loop):
    return [loop[at:] + loop[:at] for at in range(len(loop))]


def is_round_by_words(loop):
    return not any(loop[:many] * (len(loop) // many) == loop for many in range(1, len(loop)))


def greatest_by_words(loop):
    best = loop
    for turn in turns(loop):
        if is_less_by_words(row_of(("", best)), row_of(("", turn))):
            best = turn
    return best


def mu(many):
    found = 1
    for factor in range(2, many + 1):
        if many % factor == 0 and all(factor % k for k in range(2, factor)):
            if many % (factor * factor) == 0:
                return 0
            found = -found
    return found


def stands_ahead(one, other):
    """By Sharkovsky's row: odd parts above 1, by the powers of 2 in front of them, then powers."""
    keys = []
    for many in (one, other):
        twos = (many & -many).bit_length() - 1
        odd = many >> twos
        keys.append((1, -twos) if odd == 1 else (0, twos, odd))
    return keys[0] < keys[1]


SMALL = [(lead, loop) for lead in words(0, 3) for loop in words(1, 4)]
COURSES = SMALL + drawn_courses(51, 150, 8) + drawn_courses(52, 150, 40)
ROUNDS = [loop for loop in words(1, 8) if is_round_by_words(loop)]
LARGE_ROUNDS = [loop for _, loop in drawn_courses(53, 80, 40) if is_round_by_words(loop)]


class TestCourses(Caller):
    def test_is_less(self):
        for one in SMALL[::3] + drawn_courses(54, 40, 40):
            for other in SMALL[::5] + drawn_courses(55, 40, 40) + [one]:
                wanted = is_less_by_words(row_of(one), row_of(other))
                self.assertIs(is_less(one, other), wanted)

    def test_is_less_against_the_fractions(self):
        for one in COURSES[::2]:
            for other in COURSES[::9]:
                left, right = as_fraction(fraction_of(one)), as_fraction(fraction_of(other))
                if left != right:
                    self.assertIs(is_less(one, other), left < right)

    def test_rows_unlike_at_the_very_last(self):
        # These rows are alike for 77 letters behind the lead, as long as such two loops can be.
        one, other = "l" * 38 + "rl", "l" * 38 + "r"
        self.assertEqual(row_of(("", one))[:77], row_of(("", other))[:77])
        for lead in ("", "l" * 40, "r" * 39, "lr" * 20):
            rows = row_of((lead, one)), row_of((lead, other))
            self.assertNotEqual(*rows)
            self.assertIs(is_less((lead, one), (lead, other)), is_less_by_words(*rows))
            self.assertIs(is_less((lead, other), (lead, one)), is_less_by_words(*rows[::-1]))
        draw = Random(56)
        for _ in range(40):
            loop = "".join(draw.choice("lr") for _ in range(40))
            near = loop[:39] + ("l" if loop[39] == "r" else "r")
            rows = row_of((loop, loop)), row_of((loop, near))
            self.assertIs(is_less((loop, loop), (loop, near)), is_less_by_words(*rows))

    def test_courses_with_one_row_are_not_less(self):
        for lead, loop in COURSES:
            for other in ((lead, loop), (lead + loop[0], loop[1:] + loop[0]), (lead, loop * 2)):
                if len(other[0]) <= 40 and len(other[1]) <= 40:
                    self.assertIs(is_less((lead, loop), other), False)
                    self.assertIs(is_less(other, (lead, loop)), False)

    def test_shortened(self):
        for course in COURSES:
            found = shortened(course)
            self.assertEqual((type(found), type(found[0]), type(found[1])), (tuple, str, str))
            self.assertEqual(row_of(found), row_of(course))
            row = row_of(course)
            period = next(k for k in range(1, 41) if row[40:-k] == row[40 + k:])
            lead = next(k for k in range(41) if row[k:-period] == row[k + period:])
            self.assertEqual((len(found[0]), len(found[1])), (lead, period))

    def test_some_shortened(self):
        self.assertEqual(shortened(("lr", "lr")), ("", "lr"))
        self.assertEqual(shortened(("llr", "lrlr")), ("l", "lr"))
        self.assertEqual(shortened(("r" * 40, "r" * 40)), ("", "r"))
        self.assertEqual(shortened(("rl", "lrl")), ("", "rll"))

    def test_letter_at(self):
        for course in COURSES:
            row = row_of(course)
            self.assertEqual("".join(letter_at(course, k) for k in range(90)), row[:90])

    def test_letter_at_far_away(self):
        draw = Random(57)
        for lead, loop in COURSES[::5]:
            for far in [10 ** 50] + [draw.randrange(10 ** 50) for _ in range(5)]:
                wanted = loop[(far - len(lead)) % len(loop)]
                self.assertEqual(letter_at((lead, loop), far), wanted)
        self.assertEqual([letter_at(("", "l" * 39 + "r"), 40 * 10 ** 48 + k) for k in (-1, 0)], ["r", "l"])


class TestFractions(Caller):
    def test_fraction_of_leads_back_within_the_bounds(self):
        for lead, loop in COURSES:
            start = here = as_fraction(fraction_of((lead, loop)))
            for letter in lead:
                self.assertTrue(0 <= here <= 1)
                here = moved(here, letter)
            again = here
            for letter in loop:
                self.assertTrue(0 <= here <= 1)
                here = moved(here, letter)
            self.assertEqual(here, again)
            self.assertTrue(0 <= start <= 1)

    def test_some_fractions(self):
        for course, wanted in ((("", "l"), (0, 1)), (("", "r"), (2, 3)), (("r", "l"), (1, 1)),
                               (("lr", "l"), (1, 2)), (("rr", "l"), (1, 2)), (("", "rl"), (4, 5))):
            self.assertEqual(fraction_of(course), wanted)

    def test_a_short_course_has_the_same_fraction(self):
        for course in COURSES:
            self.assertEqual(fraction_of(shortened(course)), fraction_of(course))

    def check_course_of(self, place):
        """The course is told by the first place to which the raisin comes again."""
        start, met, letters = place, [], ""
        while place not in met and len(met) <= 90:
            met.append(place)
            letters += "l" if 2 * place <= 1 else "r"
            place = moved(place, letters[-1])
        ahead = met.index(place) if place in met else LARGE
        if ahead > 40 or len(met) - ahead > 40:
            self.check_error(TooMany, ("limit", 40), course_of, as_pair(start))
            return 0
        found = course_of(as_pair(start))
        self.assertEqual((type(found), type(found[0]), type(found[1])), (tuple, str, str))
        self.assertEqual(found, (letters[:ahead], letters[ahead:]))
        self.assertEqual(shortened(found), found)
        self.assertEqual(fraction_of(found), as_pair(start))
        return 1

    def test_course_of_all_small_bottoms(self):
        for bottom in range(1, 45):
            for top in range(bottom + 1):
                if gcd(top, bottom) == 1:
                    self.check_course_of(Fraction(top, bottom))

    def test_course_of_drawn_fractions(self):
        draw = Random(58)
        found = 0
        for _ in range(60):
            bottom = draw.choice((127, 129, 511, 2 ** 15, 2 ** 19 - 1, 3 * 2 ** 18, 10 ** 6, 999983,
                                  4095, 65537, 83, 1013))
            found += self.check_course_of(Fraction(draw.randrange(bottom + 1), bottom))
        self.assertGreater(found, 10)

    def test_the_longest_loops_and_leads_that_are_told(self):
        # The loop is as long as the least power of 2 that leaves 1, or 1 less than nothing.
        for bottom, many in ((41 * 11, 20), (61681, 20), (5 * 61681, 40)):
            self.check_course_of(Fraction(2, bottom))
            self.assertEqual(len(course_of((2, bottom))[1]), many)
        for bottom in (83, 13367):
            self.check_error(TooMany, ("limit", 40), course_of, (2, bottom))
            self.check_error(TooMany, ("limit", 40), course_of, (1, bottom))
        self.assertEqual(len(course_of((1, 2 ** 19))[0]), 20)

    def test_course_of_leads_back_for_courses_with_small_bottoms(self):
        for course in COURSES:
            top, bottom = fraction_of(course)
            if bottom <= 10 ** 6:
                found = course_of((top, bottom))
                if found != shortened(course):
                    # Two rows have one fraction where a raisin comes to 1 / 2.
                    self.assertEqual(found[1], "l")
                    self.assertEqual(bottom & (bottom - 1), 0)


class TestRounds(Caller):
    def test_is_round(self):
        for loop in words(1, 8) + [loop for _, loop in COURSES]:
            self.assertIs(is_round(loop), is_round_by_words(loop))
        self.assertIs(is_round("lr" * 20), False)
        self.assertIs(is_round("l" * 39 + "r"), True)

    def test_what_is_no_round(self):
        for loop in [loop for loop in words(1, 6) if not is_round_by_words(loop)] + ["lr" * 20]:
            for act in (greatest_turn, order_of_round, places_of, doubled):
                self.check_error(NotARound, ("value", loop), act, loop)
            self.check_error(NotARound, ("value", loop), forces, loop, "l")
            self.check_error(NotARound, ("value", loop), forces, "l", loop)

    def test_greatest_turn(self):
        for loop in ROUNDS + LARGE_ROUNDS:
            wanted = greatest_by_words(loop)
            for turn in turns(loop)[::1 if len(loop) < 9 else 7]:
                self.assertEqual(greatest_turn(turn), wanted)

    def test_count_rounds_by_the_formula(self):
        for many in range(1, 201):
            wanted = sum(mu(d) * 2 ** (many // d) for d in range(1, many + 1) if many % d == 0)
            self.assertEqual(count_rounds(many), wanted // many)
            self.assertEqual(wanted % many, 0)
            self.assertIs(type(count_rounds(many)), int)

    def test_all_rounds_against_all_loops(self):
        for many in range(1, 11):
            found = all_rounds(many)
            self.assertIs(type(found), tuple)
            self.assertEqual(len(found), count_rounds(many))
            loops = [loop for loop in words(many, many) if is_round_by_words(loop)]
            self.assertEqual(set(found), {greatest_by_words(loop) for loop in loops})
            rows = [row_of(("", loop)) for loop in found]
            for one, other in zip(rows, rows[1:]):
                self.assertTrue(is_less_by_words(one, other))
        self.assertEqual(all_rounds(1), ("l", "r"))
        self.assertEqual(all_rounds(3), ("rlr", "rll"))

    def test_orders_and_places(self):
        for loop in ROUNDS + LARGE_ROUNDS:
            places = places_of(loop)
            self.assertIs(type(places), tuple)
            found = [as_fraction(place) for place in places]
            self.assertTrue(all(one < other for one, other in zip(found, found[1:])))
            self.assertEqual(len(found), len(loop))
            for turn in turns(loop):
                self.assertIn(fraction_of(("", turn)), places)
            order = order_of_round(loop)
            self.assertIs(type(order), tuple)
            for place, to in zip(found, order):
                self.assertEqual(found[to], moved(place, "l" if 2 * place <= 1 else "r"))

    def test_orders_and_places_are_those_of_all_turns(self):
        for loop in ROUNDS[::3]:
            for turn in turns(loop):
                self.assertEqual(order_of_round(turn), order_of_round(loop))
                self.assertEqual(places_of(turn), places_of(loop))

    def test_one_raisin(self):
        self.assertEqual((order_of_round("l"), order_of_round("r")), ((0,), (0,)))
        self.assertEqual((places_of("l"), places_of("r")), (((0, 1),), ((2, 3),)))


class TestForcing(Caller):
    def test_forces(self):
        for loop in ROUNDS[::7] + LARGE_ROUNDS[::9]:
            for other in ROUNDS[::11] + LARGE_ROUNDS[::7] + turns(loop)[:3]:
                one, two = greatest_by_words(loop), greatest_by_words(other)
                wanted = one == two or is_less_by_words(row_of(("", two)), row_of(("", one)))
                self.assertIs(forces(loop, other), wanted)

    def test_the_least_rounds_stand_as_in_sharkovskys_row(self):
        least = {many: all_rounds(many)[0] for many in range(1, 11)}
        # The round `l` has the least row of all, and `r` is the one from which the lengths go on.
        least[1] = "r"
        for one in range(1, 11):
            for other in range(1, 11):
                wanted = one == other or stands_ahead(one, other)
                self.assertIs(forces(least[one], least[other]), wanted)
                self.assertIs(is_ahead(one, other), wanted and one != other)

    def test_doubled(self):
        for loop in ROUNDS + LARGE_ROUNDS:
            if loop == "l":
                self.check_error(NotARound, ("value", loop), doubled, loop)
            elif len(loop) > 20:
                self.check_error(TooMany, ("limit", 40), doubled, loop)
            else:
                found = doubled(loop)
                self.assertEqual(found, loop.replace("r", "R").replace("l", "rr").replace("R", "rl"))
                self.assertIs(is_round(found), True)
                turned = {greatest_turn(doubled(turn)) for turn in turns(loop)}
                self.assertEqual(turned, {greatest_turn(found)})

    def test_doubling_keeps_what_forces_what(self):
        few = [loop for loop in ROUNDS if loop != "l"]
        for loop in few[::9]:
            for other in few[::11]:
                self.assertIs(forces(doubled(loop), doubled(other)), forces(loop, other))

    def test_doubling_the_least_rounds(self):
        for many in range(2, 6):
            loop = all_rounds(many)[0]
            self.assertEqual(greatest_turn(doubled(loop)), all_rounds(2 * many)[0])

    def test_is_ahead(self):
        told = [3, 5, 7, 999999, 6, 10, 14, 12, 20, 28, 3 * 2 ** 18, 2 ** 19, 2 ** 18, 8, 4, 2, 1]
        for at, one in enumerate(told):
            for to, other in enumerate(told):
                self.assertIs(is_ahead(one, other), at < to)
        for one in range(1, 70):
            for other in range(1, 70):
                self.assertIs(is_ahead(one, other), stands_ahead(one, other))
        draw = Random(59)
        for _ in range(300):
            one, other = draw.randint(1, 10 ** 6), draw.randint(1, 10 ** 6)
            self.assertIs(is_ahead(one, other), stands_ahead(one, other))
        self.assertIs(is_ahead(10 ** 6, 10 ** 6), False)

    def test_the_examples_of_the_document(self):
        self.assertEqual((count_rounds(6), fraction_of(("", "rl"))), (9, (4, 5)))
        self.assertEqual((greatest_turn("lrr"), is_less(("", "r"), ("", "rl"))), ("rlr", True))


NO_COURSES = (
    ("", "x"), ("x", "l"), ("", ""), ("l", ""), ("l",), ("l", "r", "l"), ["", "l"], "lr", "l",
    ("L", "l"), ("", "l" * 41), ("l" * 41, "l"), ("l" * 4000, "l" * 4000), (b"", "l"), ("", b"l"),
    (None, "l"), ("", None), ("", ("l",)), (("",), "l"), ("", ["l"]), (0, 1), ("l", 1), (1, "l"),
    ("l ", "r"), {"": "l"}, ("", deep("l")), LARGE, 0,
    (ALIKE, "l"), ("", ALIKE))
NO_LOOPS = ("", "x", "L", "l ", "l" * 41, "lr" * 2000, "lx", "\uff4c", ("l",), ["l"], 0, 1, LARGE, b"l")
NO_FRACTIONS = (
    (0, 2), (2, 4), (3, 3), (1, 0), (0, 0), (0, -1), (-1, 2), (3, 2), (2, 1), (1, -2), (-1, -2),
    (1, 10 ** 6 + 1), (1, 10 ** 60 - 1), (LARGE, LARGE), (1,), (1, 2, 3), [1, 2], "12", 0, 1, (True, 1),
    (1, True), (False, 1), (0, True), ("1", "2"), (None, 1), (0, None), ((0,), 1), (0, [1]), {0: 1},
    (500000, 10 ** 6), (0, deep(1)), Fraction(1, 2), (ALIKE, 1), (0, ALIKE))


class TestWrong(Signatures, Caller):
    module = module
    course = ("course", ("l", "lr"), values(InvalidCourse, NO_COURSES + ODD_KINDS))
    other_course = ("other_course", ("r", "lr"), course[2])
    loop = ("loop", "rlr", values(InvalidLoop, NO_LOOPS + ODD_KINDS))
    round_loop = ("loop", "rlr", loop[2] + values(NotARound, ["rr", "lrlr", "l" * 40]))
    table = {
        "is_less": (course, other_course),
        "shortened": (course,),
        "letter_at": (course, number("number", 3, 0, 10 ** 50)),
        "fraction_of": (course,),
        "course_of": (("fraction", (1, 2), values(InvalidFraction, NO_FRACTIONS + ODD_KINDS)),),
        "is_round": (loop,),
        "greatest_turn": (round_loop,),
        "count_rounds": (number("number", 3, 1, 200),),
        "all_rounds": (number("number", 3, 1, 10),),
        "order_of_round": (round_loop,),
        "places_of": (round_loop,),
        "forces": (round_loop, ("other_loop", "rl", round_loop[2])),
        "doubled": (("loop", "rlr", round_loop[2] + values(NotARound, ["l"])),),
        "is_ahead": (number("number", 3, 1, 10 ** 6), number("other_number", 5, 1, 10 ** 6)),
    }

    def test_not_a_round_stands_behind_each_loop_in_its_turn(self):
        self.check_error(NotARound, ("value", "rr"), forces, "rr", "x")
        self.check_error(NotARound, ("value", "rr"), forces, "rr", None)
        self.check_error(InvalidLoop, ("value", "x"), forces, "x", "rr")
        self.check_error(InvalidLoop, ("value", "x"), forces, "rl", "x")

    def test_doubled_tells_what_is_no_round_first(self):
        self.check_error(NotARound, ("value", "lr" * 20), doubled, "lr" * 20)
        self.check_error(TooMany, ("limit", 40), doubled, "l" * 20 + "r")
        self.assertEqual(len(doubled("l" * 19 + "r")), 40)
        self.check_error(InvalidLoop, ("value", "l" * 41), doubled, "l" * 41)

    def test_bounds_are_let_in(self):
        self.assertEqual(course_of((1, 1)), ("r", "l"))
        self.assertEqual(course_of((0, 1)), ("", "l"))
        self.assertEqual(fraction_of(("l" * 40, "l" * 40)), (0, 1))
        self.assertEqual(letter_at(("l" * 40, "r" * 40), 10 ** 50), "r")
        self.assertIs(type(count_rounds(200)), int)
        self.assertIs(is_ahead(1, 10 ** 6), False)
        self.assertIs(is_less(("l" * 40, "r" * 40), ("r" * 40, "l" * 40)), True)


if __name__ == "__main__":
    unittest.main()
