import copy
import inspect
import unittest

from foldworld import errors

# The Python class, and the attribute of each error (None for none), by the class above.
TOPS = {"ShapeError": ValueError, "QuestionError": LookupError, "SizeError": ArithmeticError}
CLASSES = {
    "ShapeError": {
        "InvalidRow": "value", "InvalidFoot": "value", "InvalidNumber": "value",
        "InvalidPath": "index", "InvalidHooks": "index", "InvalidLayers": "index",
        "InvalidMarks": "value", "InvalidLengths": "index", "InvalidWays": "value",
        "InvalidPlace": "value", "InvalidCourse": "value", "InvalidLoop": "value",
        "InvalidFraction": "value", "InvalidShuffle": "value", "InvalidClues": "value",
        "InvalidPairs": "index", "InvalidSpots": "index", "InvalidDeeds": "index",
        "InvalidIndex": "value", "InvalidName": "value", "InvalidWish": "value",
        "InvalidLine": "value",
    },
    "QuestionError": {
        "Unlike": "value", "Refused": "value", "NotARound": "value", "UnknownName": "value",
        "NoFit": None, "Busy": None, "NothingToUndo": None, "Broken": "index", "InUse": "index",
    },
    "SizeError": {"TooMany": "limit"},
}
VALUES = (
    0, 1, -1, 10 ** 59, True, None, "", "()", b"x", (), (1, (2,)), [], [1, [2]], {}, {"a": 1},
    set(), object(), ValueError, ValueError("x"), len,
)
EACH = [(top, name, attribute) for top in CLASSES for name, attribute in CLASSES[top].items()]


class TestErrors(unittest.TestCase):
    def test_made_by_place_and_by_name_with_the_very_values(self):
        for _, name, attribute in EACH:
            made = getattr(errors, name)
            for value in VALUES if attribute else ():
                with self.subTest(name, value=value):
                    for error in (made(value), made(**{attribute: value})):
                        self.assertEqual(list(vars(error)), [attribute])
                        self.assertIs(getattr(error, attribute), value)

    def test_those_without_attributes_are_made_of_nothing(self):
        for _, name, attribute in EACH:
            if attribute is None:
                with self.subTest(name):
                    self.assertEqual(vars(getattr(errors, name)()), {})
                    with self.assertRaises(TypeError):
                        getattr(errors, name)(1)

    def test_an_attribute_has_to_be_told(self):
        for _, name, attribute in EACH:
            if attribute is not None:
                with self.subTest(name), self.assertRaises(TypeError):
                    getattr(errors, name)()

    def test_the_parameters_are_the_attributes(self):
        for _, name, attribute in EACH:
            with self.subTest(name):
                told = list(inspect.signature(getattr(errors, name)).parameters)
                self.assertEqual(told, [attribute] if attribute else [])

    def test_each_is_derived_from_the_class_above_it_and_no_other(self):
        everything = list(TOPS) + [name for _, name, _ in EACH]
        for top, name, _ in EACH:
            with self.subTest(name):
                made = getattr(errors, name)
                self.assertEqual(made.__bases__, (getattr(errors, top),))
                above = [other for other in everything if issubclass(made, getattr(errors, other))]
                self.assertEqual(sorted(above), sorted([top, name]))

    def test_the_three_above_come_from_the_classes_of_python(self):
        for name, above in TOPS.items():
            with self.subTest(name):
                self.assertEqual(getattr(errors, name).__bases__, (above,))
                self.assertIsInstance(getattr(errors, name)(), above)

    def test_they_are_raised_and_caught_by_the_class_above(self):
        for top, name, attribute in EACH:
            with self.subTest(name):
                with self.assertRaises(getattr(errors, top)) as caught:
                    raise getattr(errors, name)(*([(1, 2)] if attribute else []))
                self.assertIs(type(caught.exception), getattr(errors, name))
                with self.assertRaises(TOPS[top]):
                    raise caught.exception

    def test_an_error_can_be_shown_and_copied(self):
        for _, name, attribute in EACH:
            with self.subTest(name):
                error = getattr(errors, name)(*([(1, 2)] if attribute else []))
                self.assertIsInstance(str(error), str)
                self.assertEqual(vars(copy.copy(error)), vars(error))

    def test_all_are_defined_here_and_there_are_no_others(self):
        found = [name for name, made in vars(errors).items() if isinstance(made, type)]
        self.assertEqual(sorted(found), sorted(list(TOPS) + [name for _, name, _ in EACH]))
        for name in found:
            self.assertEqual(getattr(errors, name).__module__, "foldworld.errors")


if __name__ == "__main__":
    unittest.main()
