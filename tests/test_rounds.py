"""Rounds of two rows, the weight table and its determinant."""

import unittest
from fractions import Fraction
from math import comb

from foldworld import rounds as module
from foldworld.errors import InvalidNumber, InvalidRow, Unlike
from foldworld.rounds import chain, count_rounds, powers, rounds, spread, weight, weights
from foldworld.rows import arches, mirrored, neighbours, turned
from tests.support import Caller, drawn_rows, rounds_by_words, rows_by_blocks
from tests.wrong import LARGE, Signatures, number, other_row, row

SMALL = [rows_by_blocks(many) for many in range(5)]
PAIRS = [(upper, lower) for rows in SMALL for upper in rows for lower in rows]
LARGE_PAIRS = list(zip(drawn_rows(1, 12, 80), drawn_rows(2, 12, 80)))
LARGE_PAIRS += list(zip(drawn_rows(3, 9, 40), drawn_rows(4, 9, 40)))
WORTHS = (0, 1, -1, 2, 1000, -1000)


def by_going_along(upper, lower):
    """The rounds, by going along arches from each foot not yet met."""
    found, met = [], set()
    mates = [dict(known) | {high: low for low, high in known}
             for known in (arches(upper), arches(lower))]
    for foot in range(len(upper)):
        if foot not in met:
            lot, here = [], foot
            while here not in lot:
                lot += [here, mates[0][here]]
                here = mates[1][mates[0][here]]
            met |= set(lot)
            found.append(tuple(sorted(lot)))
    return tuple(found)


def determinant(table):
    """The determinant, by fractions."""
    rows = [[Fraction(value) for value in line] for line in table]
    found = Fraction(1)
    for at in range(len(rows)):
        pivot = next((k for k in range(at, len(rows)) if rows[k][at] != 0), None)
        if pivot is None:
            return 0
        if pivot != at:
            rows[at], rows[pivot] = rows[pivot], rows[at]
            found = -found
        found *= rows[at][at]
        for below in range(at + 1, len(rows)):
            times = rows[below][at] / rows[at][at]
            rows[below] = [one - times * other for one, other in zip(rows[below], rows[at])]
    return found


def binom(many, part):
    return comb(many, part) if part >= 0 else 0


def power_by_words(many, m):
    return (binom(2 * many, many - m) - 2 * binom(2 * many, many - m - 1)
            + binom(2 * many, many - m - 2))


def chain_by_sum(many, worth):
    """U(many), as a sum over the ways to take neighbours together."""
    return sum((-1) ** k * comb(many - k, k) * worth ** (many - 2 * k)
               for k in range(many // 2 + 1))


class TestRounds(unittest.TestCase):
    def test_all_pairs_of_up_to_four_arches(self):
        for upper, lower in PAIRS + LARGE_PAIRS:
            with self.subTest(upper=upper, lower=lower):
                found = rounds(upper, lower)
                self.assertEqual(found, rounds_by_words(upper, lower))
                self.assertEqual(found, by_going_along(upper, lower))
                self.assertIs(type(found), tuple)
                self.assertTrue(all(type(lot) is tuple for lot in found))
                self.assertEqual(count_rounds(upper, lower), len(found))
                self.assertIs(type(count_rounds(upper, lower)), int)

    def test_each_ascending_and_by_their_first_feet(self):
        for upper, lower in PAIRS + LARGE_PAIRS:
            found = rounds(upper, lower)
            self.assertEqual(list(found), sorted(found))
            self.assertTrue(all(list(lot) == sorted(lot) for lot in found))
            self.assertEqual(sorted(foot for lot in found for foot in lot), list(range(len(upper))))

    def test_a_row_beside_itself(self):
        for upper, _ in PAIRS + LARGE_PAIRS:
            self.assertEqual(rounds(upper, upper), arches(upper))

    def test_both_rows_turned(self):
        for upper, lower in PAIRS + LARGE_PAIRS:
            many = len(upper)
            moved = sorted(tuple(sorted((foot - 1) % many for foot in lot))
                           for lot in rounds(upper, lower))
            self.assertEqual(rounds(turned(upper), turned(lower)), tuple(moved))

    def test_both_rows_mirrored(self):
        for upper, lower in PAIRS + LARGE_PAIRS:
            moved = sorted(tuple(sorted(len(upper) - 1 - foot for foot in lot))
                           for lot in rounds(upper, lower))
            self.assertEqual(rounds(mirrored(upper), mirrored(lower)), tuple(moved))

    def test_the_rows_exchanged_with_one_another(self):
        for upper, lower in PAIRS + LARGE_PAIRS:
            self.assertEqual(rounds(lower, upper), rounds(upper, lower))

    def test_to_exchange_two_arches_makes_one_round_more_or_less(self):
        for upper, lower in PAIRS[::3] + LARGE_PAIRS[::8]:
            for near in neighbours(upper):
                self.assertEqual(abs(count_rounds(near, lower) - count_rounds(upper, lower)), 1)

    def test_the_empty_rows_have_no_round(self):
        self.assertEqual((rounds("", ""), count_rounds("", "")), ((), 0))

    def test_the_examples_of_the_document(self):
        self.assertEqual(rounds("(())", "()()"), ((0, 1, 2, 3),))
        self.assertEqual(rounds("()()", "()()"), ((0, 1), (2, 3)))


class TestWeights(unittest.TestCase):
    def test_spread_against_counting(self):
        for many in range(1, 5):
            counts = [len(rounds_by_words(upper, lower))
                      for upper in SMALL[many] for lower in SMALL[many]]
            wanted = tuple(counts.count(k) for k in range(1, many + 1))
            self.assertEqual(spread(many), wanted)
            self.assertIs(type(spread(many)), tuple)

    def test_spread_of_five(self):
        self.assertEqual(len(spread(5)), 5)
        self.assertEqual(sum(spread(5)), 42 ** 2)
        self.assertEqual(spread(5)[-1], 42)
        self.assertEqual(spread(5)[0], 262)

    def test_weights(self):
        for many in range(1, 5):
            for worth in WORTHS + (3, -7):
                wanted = tuple(
                    tuple(worth ** len(rounds_by_words(upper, lower)) for lower in SMALL[many])
                    for upper in SMALL[many])
                self.assertEqual(weights(many, worth), wanted)
                self.assertIs(type(weights(many, worth)), tuple)
                self.assertTrue(all(type(line) is tuple for line in weights(many, worth)))

    def test_weight_is_the_determinant(self):
        # The greatest determinant is of degree 56 in the worth: so many worths settle it for all.
        for many in range(1, 5):
            for worth in WORTHS + tuple(range(-30, 31)):
                with self.subTest(many=many, worth=worth):
                    self.assertEqual(weight(many, worth), determinant(weights(many, worth)))
                    self.assertIs(type(weight(many, worth)), int)

    def test_weight_is_the_product(self):
        for many in range(1, 5):
            for worth in WORTHS + (3, -7, 999):
                wanted = 1
                for m in range(1, many + 1):
                    wanted *= chain_by_sum(m, worth) ** power_by_words(many, m)
                self.assertEqual(weight(many, worth), wanted)

    def test_zero_to_the_power_zero_is_one(self):
        self.assertEqual(power_by_words(1, 1), 1)
        self.assertEqual([weight(many, 0) for many in range(1, 5)], [0] * 4)
        self.assertEqual(weight(2, 1), 0)

    def test_powers(self):
        for many in range(1, 8):
            self.assertEqual(powers(many), tuple(power_by_words(many, m) for m in range(1, many + 1)))
            self.assertIs(type(powers(many)), tuple)
            # The degree in the worth is that of the diagonal: each row has its arches as rounds.
            degree = sum(m * power for m, power in enumerate(powers(many), 1))
            self.assertEqual(degree, many * comb(2 * many, many) // (many + 1))
        self.assertEqual(powers(2), (2, 1))

    def test_chain(self):
        for worth in WORTHS + (3, -7, 999):
            for many in range(41):
                self.assertEqual(chain(many, worth), chain_by_sum(many, worth))
        self.assertEqual([chain(many, 2) for many in range(41)], list(range(1, 42)))
        self.assertEqual([chain(many, 0) for many in range(6)], [1, 0, -1, 0, 1, 0])
        self.assertEqual([chain(many, 1) for many in range(7)], [1, 1, 0, -1, -1, 0, 1])


class TestWrong(Signatures, Caller):
    module = module
    worth = number("worth", 3, -1000, 1000)
    table = {
        "rounds": (row("upper", "(())"), other_row("lower", "()()")),
        "count_rounds": (row("upper", "(())"), other_row("lower", "()()")),
        "spread": (number("number", 3, 1, 5),),
        "weights": (number("number", 2, 1, 4), worth),
        "weight": (number("number", 2, 1, 4), worth),
        "powers": (number("number", 3, 1, 7),),
        "chain": (number("number", 3, 0, 40), worth),
    }

    def test_bounds_are_let_in(self):
        self.assertEqual(spread(1), (1,))
        self.assertEqual(weights(1, 1000), ((1000,),))
        self.assertEqual(weight(1, -1000), -1000)
        self.assertEqual(powers(1), (1,))
        self.assertEqual(chain(0, -1000), 1)
        self.assertEqual(chain(40, 1), -1)
        self.assertEqual(count_rounds("()" * 12, "()" * 12), 12)

    def test_unlike_is_behind_the_errors_of_both(self):
        for act in (rounds, count_rounds):
            self.check_error(InvalidRow, ("value", ")("), act, "()()", ")(")
            self.check_error(InvalidRow, ("value", "("), act, "(", ")(")
            self.check_error(Unlike, ("value", "()"), act, "", "()")
            self.check_error(Unlike, ("value", ""), act, "()", "")
            self.check_error(Unlike, ("value", "()" * 12), act, "()" * 11, "()" * 12)

    def test_a_worth_with_sixty_figures(self):
        for act in (weights, weight, chain):
            for worth in (LARGE, -LARGE):
                self.check_error(InvalidNumber, ("value", worth), act, 1, worth)


if __name__ == "__main__":
    unittest.main()
