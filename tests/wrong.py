"""Wrong values for each parameter of each function of a module, and how parameters are passed.

A table tells, for each function, its parameters: the name, a value that is let in, and the wrong
values, each with the error, its attribute and what this holds.
"""

import inspect

from foldworld.errors import (
    InvalidNumber, InvalidRow, QuestionError, Refused, ShapeError, Unlike)
from tests.support import NO_ROWS, OTHER_KINDS

LARGE = 10 ** 60 - 1


def deep(inner):
    """A tuple nested twenty deep."""
    for _ in range(20):
        inner = (inner,)
    return inner


class Alike:
    """What equals everything is still of another kind."""

    def __eq__(self, other):
        return True

    def __hash__(self):
        return 1


ALIKE = Alike()
ODD_KINDS = OTHER_KINDS + (
    deep(1), [[1], [2]], ((1, 2), (3,)), ("m", "v"), b"mv", frozenset(), ALIKE, (ALIKE, ALIKE))


def values(error, wrong):
    """Wrong values that the error holds."""
    return [(error, "value", value, value) for value in wrong]


def indexes(error, wrong):
    """Wrong values, told with the index that the error holds."""
    return [(error, "index", value, index) for value, index in wrong]


def beyond(least, most):
    """What is no number from least to most."""
    return ODD_KINDS + (
        least - 1, least - 2, -LARGE, most + 1, most + 2, LARGE, str(most), (most,), [most])


def number(name, good, least, most):
    """A parameter that is a number from least to most."""
    return name, good, values(InvalidNumber, beyond(least, most))


def row(name, good):
    """A parameter that is an arch row."""
    return name, good, values(InvalidRow, ODD_KINDS + NO_ROWS + (0, 1, -1, LARGE, ("(", ")")))


def other_row(name, good):
    """A parameter that is an arch row with as many arches as the one ahead."""
    name, good, wrong = row(name, good)
    unlike = [text for text in ("", "()", "(())", "()(())", "()" * 12) if len(text) != len(good)]
    return name, good, wrong + values(Unlike, unlike)


def some_row(name, good):
    """A parameter that is a tangle with at least one arch."""
    name, good, wrong = row(name, good)
    return name, good, wrong + values(Refused, [""])


class Signatures:
    """To be mixed into a Caller, with a module and a table."""

    module = None
    table = {}

    def each(self):
        for name, told in self.table.items():
            yield name, getattr(self.module, name), told

    def test_each_function_is_defined_there_with_these_names(self):
        for name, act, told in self.each():
            with self.subTest(name):
                self.assertEqual(act.__module__, self.module.__name__)
                self.assertEqual(list(inspect.signature(act).parameters), [it[0] for it in told])

    def test_by_place_and_by_name(self):
        for name, act, told in self.each():
            by_place = [it[1] for it in told]
            with self.subTest(name):
                found = act(*by_place)
                self.assertEqual(act(**{it[0]: it[1] for it in reversed(told)}), found)
                self.assertEqual(act(by_place[0], **{it[0]: it[1] for it in told[1:]}), found)
                self.assertEqual(act(*by_place), found)

    def test_each_wrong_value_at_each_place(self):
        for name, act, told in self.each():
            for at, (parameter, _, wrong) in enumerate(told):
                for error, attribute, value, held in wrong:
                    with self.subTest(name, parameter=parameter, value=value):
                        passed = [it[1] for it in told]
                        passed[at] = value
                        self.check_error(error, (attribute, held), act, *passed)
                        named = {it[0]: one for it, one in zip(told, passed)}
                        self.check_error(error, (attribute, held), act, **named)

    def test_the_first_wrong_one_counts(self):
        for name, act, told in self.each():
            for at in range(len(told) - 1):
                for error, attribute, value, held in told[at][2]:
                    with self.subTest(name, at=at, value=value):
                        later = [object() for _ in told[at + 1:]]
                        passed = [it[1] for it in told[:at]] + [value] + later
                        self.check_error(error, (attribute, held), act, *passed)
                        # By name in the other order: the signature's order counts all the same.
                        named = {it[0]: one for it, one in zip(told, passed)}
                        turned = {key: named[key] for key in reversed(named)}
                        self.check_error(error, (attribute, held), act, **turned)

    def test_what_is_passed_is_not_altered(self):
        for name, act, told in self.each():
            for value in ([1, 2], {"a": [1]}, ["()", "()"], [0, 1, [2]], (0, [1])):
                kept = repr(value)
                with self.subTest(name, value=value):
                    with self.assertRaises((ShapeError, QuestionError)):
                        act(*[value for _ in told])
                self.assertEqual(repr(value), kept)


class Methods(Signatures):
    """To be mixed into a Caller, with a class, an object in `made`, and a table of its methods."""

    listed = None

    def made(self):
        raise NotImplementedError

    def each(self):
        for name, told in self.table.items():
            if told:
                yield name, self.fresh(name), told

    def fresh(self, name):
        """The method of a new object each time."""
        return lambda *told, **named: getattr(self.made(), name)(*told, **named)

    def test_each_function_is_defined_there_with_these_names(self):
        self.assertEqual(self.listed.__module__, self.module.__name__)
        for name, told in self.table.items():
            with self.subTest(name):
                act = vars(self.listed)[name]
                self.assertEqual(act.__module__, self.module.__name__)
                parameters = list(inspect.signature(act).parameters)[1:]
                self.assertEqual(parameters, [it[0] for it in told])
