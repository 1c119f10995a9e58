"""The examples of the document, and those of the README."""

import builtins
import doctest
import unittest
from pathlib import Path

README = Path(__file__).resolve().parent.parent / "README.md"

EXAMPLES = '''
>>> from foldworld.rounds import rounds
>>> from foldworld.rows import all_rows, count_rows, exchanged, mate, turned
>>> from foldworld.tangles import closed, hook, least_word, product, unit
>>> [all_rows(3), count_rows(10), mate("(()())", 3), turned("(())"), exchanged("(())", 0, 1), rounds("(())", "()()"), rounds("()()", "()()")]
[('((()))', '(()())', '(())()', '()(())', '()()()'), 16796, 4, '()()', '()()', ((0, 1, 2, 3),), ((0, 1), (2, 3))]
>>> [unit(3), hook(3, 0), product(hook(3, 0), hook(3, 0)), product(hook(3, 0), hook(3, 1)), least_word("(())()"), closed(unit(3)), closed(hook(3, 1))]
['((()))', '()()()', ('()()()', 1), ('()(())', 0), (1, 0), 3, 2]

>>> from foldworld.rivers import count_rivers, path
>>> from foldworld.stamps import count_foldings, crossing, is_folding, marks_of, sides
>>> from foldworld.strips import is_foldable, steps
>>> [count_rivers(4), path("(())", "()()"), count_foldings(6), is_folding((0, 2, 1, 3)), crossing((0, 2, 1, 3)), marks_of((1, 2, 3, 0)), sides((1, 2, 3, 0))]
[42, (0, 3, 2, 1), 144, False, (0, 2), 'vvm', ('(())', '()..')]
>>> [is_foldable((3, 1, 3), "vm"), is_foldable((3, 1, 3), "vv"), steps((3, 1, 3), "vm")]
[True, False, (('crimp', 0),)]

>>> from foldworld.decks import order_of, place_after
>>> from foldworld.dough import count_rounds, fraction_of, greatest_turn, is_less
>>> from foldworld.halves import layers_of, mark_at, marks, point_after
>>> [marks("oo"), layers_of("oo"), mark_at("o" * 100, 2 ** 99), point_after("oo", 4), count_rounds(6), fraction_of(("", "rl")), greatest_turn("lrr"), is_less(("", "r"), ("", "rl"))]
['vvm', (1, 2, 3, 0), 'v', (0, 2), 9, (4, 5), 'rlr', True]
>>> [order_of("out", 52), order_of("in", 52), place_after("fold", 8, 3, 1), place_after("fold", 8, 5, 1), order_of("fold", 8)]
[8, 52, 6, 5, 4]
'''


class TestExamples(unittest.TestCase):
    def check_examples(self, text, name):
        test = doctest.DocTestParser().get_doctest(text, {}, name, name, 0)
        self.assertGreater(len(test.examples), 10)
        told = []
        # What an example shows last is kept among the builtins.
        self.addCleanup(lambda: vars(builtins).pop("_", None))
        result = doctest.DocTestRunner(verbose=False).run(test, out=told.append)
        self.assertEqual(result.failed, 0, "".join(told))

    def test_the_document(self):
        self.check_examples(EXAMPLES, "DOC.md")

    def test_the_readme(self):
        # The fences would be read as part of what is wanted.
        parts = README.read_text(encoding="utf-8").split("```\n")
        self.check_examples("\n".join(part for part in parts if part.startswith(">>>")), "README.md")


if __name__ == "__main__":
    unittest.main()
