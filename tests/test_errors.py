"""The error classes: what they keep, and what they are below."""

import unittest

from mapflow import errors
from mapflow.errors import (
    BadLand, BadMap, BadNumber, BadPlace, BadPlacing, BadPoly, BadText, BadWeights, FlowError, Misfit, TooMany,
)

WITH_PART = (BadNumber, BadMap, BadLand, BadPlace, BadPlacing, BadWeights, BadPoly, Misfit)
ALL = WITH_PART + (TooMany, BadText)
PYTHONS_OWN = (
    TypeError, KeyError, IndexError, LookupError, ArithmeticError, ZeroDivisionError, OverflowError,
    RuntimeError, AttributeError, NameError, AssertionError, OSError, UnicodeError, StopIteration,
)


def fields_of_many_kinds():
    return (
        "lands", "", 0, -1, 60, 10 ** 40, -(10 ** 6000), None, True, False, 1.5, b"\x00",
        [1, [2]], (1, (2,)), [], (), {"a": [1]}, object(), FlowError,
    )


class KeptFieldsTest(unittest.TestCase):
    def test_part_by_place_and_by_name(self):
        for error in WITH_PART:
            for field in fields_of_many_kinds():
                self.assertIs(error(field).part, field)
                self.assertIs(error(part=field).part, field)

    def test_what_and_most(self):
        for field in fields_of_many_kinds():
            for other in fields_of_many_kinds():
                for made in (TooMany(field, other), TooMany(field, most=other), TooMany(most=other, what=field)):
                    self.assertIs(made.what, field)
                    self.assertIs(made.most, other)

    def test_line_and_item(self):
        for field in fields_of_many_kinds():
            for other in fields_of_many_kinds():
                for made in (BadText(field, other), BadText(field, item=other), BadText(item=other, line=field)):
                    self.assertIs(made.line, field)
                    self.assertIs(made.item, other)

    def test_a_list_is_kept_as_it_was_passed(self):
        field = [1, [2, 3]]
        self.assertIs(Misfit(field).part, field)
        self.assertEqual(field, [1, [2, 3]])

    def test_two_errors_keep_their_own_fields(self):
        one, other = BadMap("one"), BadMap("other")
        self.assertEqual((one.part, other.part), ("one", "other"))

    def test_no_fewer_and_no_more_fields(self):
        for error in WITH_PART:
            self.assertRaises(TypeError, error)
            self.assertRaises(TypeError, error, 1, 2)
        for error in (TooMany, BadText):
            self.assertRaises(TypeError, error, 1)
            self.assertRaises(TypeError, error, 1, 2, 3)


class BasesTest(unittest.TestCase):
    def test_the_base_is_directly_below_value_error(self):
        self.assertEqual(FlowError.__bases__, (ValueError,))

    def test_each_is_directly_below_the_base(self):
        for error in ALL:
            self.assertEqual(error.__bases__, (FlowError,))

    def test_none_is_below_another_one(self):
        for error in ALL:
            for other in ALL:
                self.assertEqual(issubclass(error, other), error is other)

    def test_none_is_below_another_error_of_python(self):
        for error in ALL:
            for other in PYTHONS_OWN:
                self.assertFalse(issubclass(error, other))
            for other in (FlowError, ValueError, Exception):
                self.assertTrue(issubclass(error, other))

    def test_just_these_classes(self):
        found = [value for value in vars(errors).values() if isinstance(value, type)]
        self.assertEqual(sorted(error.__name__ for error in found),
                         sorted(error.__name__ for error in ALL + (FlowError,)))

    def test_each_makes_its_fields_itself(self):
        for error in ALL:
            self.assertIn("__init__", vars(error))
            self.assertEqual(error.__module__, "mapflow.errors")


class CaughtTest(unittest.TestCase):
    def made_ones(self):
        return [error("part") for error in WITH_PART] + [TooMany("dots", 60), BadText(0, 3)]

    def test_caught_by_each_class_above(self):
        for made in self.made_ones():
            for above in (type(made), FlowError, ValueError, Exception):
                with self.assertRaises(above) as caught:
                    raise made
                self.assertIs(caught.exception, made)

    def test_not_caught_by_another_one(self):
        for made in self.made_ones():
            others = tuple(error for error in ALL if error is not type(made))
            with self.assertRaises(type(made)):
                try:
                    raise made
                except others:
                    self.fail("caught by another class")


if __name__ == "__main__":
    unittest.main()
