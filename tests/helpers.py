"""What several tests need."""

import copy
import unittest

from manysides.shapes import Shape


def shown(value):
    """Returns a text that tells values apart which Python calls equal, such as True and 1."""
    if isinstance(value, Shape):
        return f"Shape({value.dims!r}, {value.attrs!r})"
    if hasattr(value, "cells"):
        return f"Array({shown(value.shape)}, {value.cells!r})"
    return repr(value)


class Case(unittest.TestCase):
    """A test case for values and errors of the program."""

    def assert_same(self, found, wanted):
        """The values are equal, and True and False are told from 1 and 0."""
        self.assertEqual(shown(found), shown(wanted))

    def assert_error(self, error, place, action, *args):
        """The call raises just this error, with this place and its own name."""
        with self.assertRaises(error) as caught:
            action(*args)
        self.assertIs(caught.exception.__class__, error)
        self.assertEqual(caught.exception.name, error.__name__)
        self.assert_same(caught.exception.place, place)

    def assert_unchanged(self, action, *args):
        """The call changes none of its arguments. Returns what it returns."""
        before = [shown(arg) for arg in args]
        found = action(*args)
        self.assertEqual([shown(arg) for arg in args], before)
        return found


def copied(value):
    """Returns a copy that shares nothing with a value."""
    return copy.deepcopy(value)


LINE = Shape((("x", 0, 9, 5),), (("v", "int"),))
MIXED = Shape((("x", 0, 9, 5),), (("v", "int"), ("f", "flag"), ("t", "text")))
PLANE = Shape((("x", 0, 9, 4), ("y", -1, 1, 2)), (("v", "int"),))
EDGE = 10 ** 30 - 1
