import unittest

from foldworld import limits

LIMITS = {
    "MOST_ARCHES": 12, "MOST_LIST": 7, "MOST_WEIGHTS": 4, "MOST_RIVERS": 5, "MOST_TANGLE": 6,
    "MOST_PIECES": 8, "MOST_LENGTH": 1000, "MOST_WAYS": 100, "MOST_SHOWN": 10,
    "MOST_LETTERS": 40, "MOST_BOTTOM": 10 ** 6, "MOST_DECK": 10 ** 6, "MOST_CLUES": 10,
    "MOST_SPOTS": 20,
}


class TestLimits(unittest.TestCase):
    def test_each_limit_has_its_value(self):
        for name, value in LIMITS.items():
            with self.subTest(name):
                self.assertIs(type(getattr(limits, name)), int)
                self.assertEqual(getattr(limits, name), value)

    def test_there_are_no_other_limits(self):
        names = [name for name in vars(limits) if not name.startswith("_")]
        self.assertEqual(sorted(names), sorted(LIMITS))


if __name__ == "__main__":
    unittest.main()
