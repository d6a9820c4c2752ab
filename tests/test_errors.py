"""Points 00.2 and 00.3."""

import unittest

from manysides import errors
from manysides.arrays import Array
from manysides.errors import ManysidesError
from manysides.roots import Root
from manysides.shapes import Shape
from tests.helpers import LINE

NAMES = ("InvalidText", "InvalidShape", "InvalidCell", "InvalidQuery", "InvalidWords", "InvalidVersion",
         "Truncated", "Damaged", "PowerLost", "LineCut")


class ErrorsTest(unittest.TestCase):
    def test_base_class(self):
        self.assertEqual(ManysidesError.__bases__, (ValueError,))
        error = ManysidesError(7)
        self.assertEqual((error.place, error.name), (7, "ManysidesError"))

    def test_each_class_is_derived_from_the_base_alone(self):
        for name in NAMES:
            error = getattr(errors, name)
            self.assertEqual(error.__bases__, (ManysidesError,))
            self.assertEqual(error.__module__, "manysides.errors")

    def test_place_and_name(self):
        for place, name in enumerate(NAMES):
            error = getattr(errors, name)(place)
            self.assertEqual((error.place, error.name), (place, name))

    def test_an_error_is_not_caught_as_another_one(self):
        for name in NAMES:
            for other in NAMES:
                caught = isinstance(getattr(errors, name)(0), getattr(errors, other))
                self.assertEqual(caught, name == other)


class EqualityTest(unittest.TestCase):
    def test_objects_are_equal_to_no_value_of_another_class(self):
        array = Array(LINE, {(1,): (2,)})
        others = [None, True, 0, "", (), [], {}, (LINE.dims, LINE.attrs), {(1,): (2,)}, object()]
        for other in others + [array]:
            self.assertFalse(LINE == other)
            self.assertTrue(LINE != other)
            self.assertFalse(other == LINE)
        for other in others + [LINE]:
            self.assertFalse(array == other)
            self.assertTrue(array != other)

    def test_roots(self):
        root = Root(2, 0, ((1, (("a", LINE, ()),)),))
        self.assertTrue(root == Root(2, 0, ((1, (("a", Shape(LINE.dims, LINE.attrs), ()),)),)))
        for other in (None, True, 2, "", (), [], (2, 0, root.versions), {}, object(), LINE, Array(LINE, {})):
            self.assertFalse(root == other)
            self.assertTrue(root != other)
            self.assertFalse(other == root)

    def test_a_class_with_the_same_attributes_is_another_class(self):
        class Other:
            dims = LINE.dims
            attrs = LINE.attrs
            shape = LINE
            cells = {}

        self.assertFalse(LINE == Other())
        self.assertFalse(Array(LINE, {}) == Other())
        self.assertTrue(LINE == Shape(LINE.dims, LINE.attrs))
