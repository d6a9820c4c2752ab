"""Shapes of arrays: dimensions and attributes (chapter 03)."""

from manysides.errors import InvalidShape
from manysides.kinds import KINDS

DIGITS = "0123456789"
NAME_CHARACTERS = "ABCDEFGHIJKLMNOPQRSTUVWXYZabcdefghijklmnopqrstuvwxyz0123456789_"
LONGEST_NAME = 30
MOST_DIMS = 6
MOST_ATTRS = 16
FURTHEST = 10 ** 6
LONGEST_STEP = 10 ** 6


class Shape:
    """Dimensions, tuples (name, low, high, step), and attributes, tuples (name, kind)."""

    def __init__(self, dims, attrs):
        self.dims = dims
        self.attrs = attrs

    def __eq__(self, other):
        return isinstance(other, Shape) and self.dims == other.dims and self.attrs == other.attrs


def check_shape(shape):
    """Returns None. Raises InvalidShape for the first thing that is wrong."""
    if not 1 <= len(shape.dims) <= MOST_DIMS or not 1 <= len(shape.attrs) <= MOST_ATTRS:
        raise InvalidShape(0)
    names = []
    for index, dim in enumerate(shape.dims):
        if not is_dim(dim) or dim[0] in names:
            raise InvalidShape(index)
        names.append(dim[0])
    for index, attr in enumerate(shape.attrs):
        if not is_attr(attr) or attr[0] in names:
            raise InvalidShape(len(shape.dims) + index)
        names.append(attr[0])


def is_dim(dim):
    """Returns True if a tuple of four is a dimension, otherwise False."""
    name, low, high, step = dim
    return is_simple_name(name) and -FURTHEST <= low <= high <= FURTHEST and 1 <= step <= LONGEST_STEP


def is_attr(attr):
    """Returns True if a tuple of two is an attribute, otherwise False."""
    name, kind = attr
    return is_simple_name(name) and kind in KINDS


def is_simple_name(text):
    """Returns True if a string is a simple name, otherwise False."""
    if not 1 <= len(text) <= LONGEST_NAME:
        return False
    return text.strip(NAME_CHARACTERS) == "" and text[0] not in DIGITS


def dim_index(shape, name):
    """Returns the index of the dimension with a name, or None."""
    return index_of(shape.dims, name)


def attr_index(shape, name):
    """Returns the index of the attribute with a name, or None."""
    return index_of(shape.attrs, name)


def index_of(rows, name):
    """Returns the index of the tuple that begins with a name, or None."""
    for index, row in enumerate(rows):
        if row[0] == name:
            return index
    return None
