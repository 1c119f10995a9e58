"""Samples, against what other modules tell of them."""

import unittest

from foldworld import samples as module
from foldworld.rows import arches, blocks, count_short, depth, mirrored, turned
from foldworld.samples import hills, rainbow, spiral
from foldworld.stamps import is_folding, marks_of, sides, topped
from foldworld.tangles import closed, flip, strands, unit
from tests.support import Caller
from tests.wrong import Signatures, number


class TestRows(unittest.TestCase):
    def test_rainbow(self):
        for many in range(13):
            row = rainbow(many)
            self.assertIs(type(row), str)
            self.assertEqual(arches(row), tuple((k, 2 * many - 1 - k) for k in range(many)))
            self.assertEqual((depth(row), count_short(row)), (many, min(many, 1)))
            self.assertEqual(blocks(row), (row,) if many else ())
            self.assertEqual(mirrored(row), row)
            if many:
                self.assertEqual((unit(many), closed(row), strands(row)), (row, many, many))

    def test_hills(self):
        for many in range(13):
            row = hills(many)
            self.assertIs(type(row), str)
            self.assertEqual(arches(row), tuple((2 * k, 2 * k + 1) for k in range(many)))
            self.assertEqual((depth(row), count_short(row)), (min(many, 1), many))
            self.assertEqual(blocks(row), ("()",) * many)
            self.assertEqual((mirrored(row), flip(row)), (row, row))
            self.assertEqual(turned(turned(row)), row)

    def test_one_turned_is_the_other_for_two_arches(self):
        self.assertEqual((turned(rainbow(2)), turned(hills(2))), (hills(2), rainbow(2)))
        for many in range(3, 13):
            self.assertEqual(turned(hills(many)), "(" + hills(many - 1) + ")")
            self.assertEqual(turned(rainbow(many)), "(" * (many - 1) + ")" * (many - 1) + "()")


class TestSpirals(unittest.TestCase):
    def test_each_piece_lies_around_all_before_it(self):
        for many in range(1, 9):
            layers = spiral(many)
            self.assertIs(type(layers), tuple)
            self.assertEqual(sorted(layers), list(range(many)))
            self.assertTrue(is_folding(layers))
            for piece in range(1, many):
                inner = [one for one in layers if one <= piece]
                self.assertEqual(inner.index(piece), 0 if piece % 2 == 1 else piece)

    def test_marks_and_sides(self):
        for many in range(1, 9):
            layers = spiral(many)
            # Laid around always in the one way, all creases are valleys.
            self.assertEqual(marks_of(layers), "v" * (many - 1))
            right, left = sides(layers)
            self.assertEqual(right.replace(".", ""), rainbow(many // 2))
            self.assertEqual(left.replace(".", ""), rainbow((many - 1) // 2))
            self.assertTrue(is_folding(topped(layers)))

    def test_the_example_of_the_document(self):
        self.assertEqual(spiral(4), (3, 1, 0, 2))
        self.assertEqual([spiral(many) for many in (1, 2, 3)], [(0,), (1, 0), (1, 0, 2)])


class TestWrong(Signatures, Caller):
    module = module
    table = {
        "rainbow": (number("number", 3, 0, 12),),
        "hills": (number("number", 3, 0, 12),),
        "spiral": (number("number", 4, 1, 8),),
    }


if __name__ == "__main__":
    unittest.main()
