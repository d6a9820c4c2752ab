"""Arrays: a shape, and cells at places (chapter 04)."""

from manysides.errors import InvalidCell
from manysides.kinds import is_value


class Array:
    """A shape, and a dict that maps places to tuples of values."""

    def __init__(self, shape, cells):
        self.shape = shape
        self.cells = {place: cells[place] for place in cells}

    def __eq__(self, other):
        return isinstance(other, Array) and self.shape == other.shape and are_same_cells(self.cells, other.cells)


def are_same_cells(first, second):
    """Returns True if two dicts have the same places with the same values, otherwise False."""
    # To Python, True is equal to 1 and False to 0; as values they are of different kinds.
    return first == second and all([flags_in(first[place]) == flags_in(second[place]) for place in first])


def flags_in(values):
    """Returns a list that tells for each value if it is True or False."""
    return [isinstance(value, bool) for value in values]


def sorted_cells(array):
    """Returns the list of the cells, pairs of a place and its values, in the order of places."""
    return [(place, array.cells[place]) for place in sorted(array.cells)]


def check_array(array):
    """Returns None. Raises InvalidCell for the first cell that is wrong."""
    for index, (place, values) in enumerate(sorted_cells(array)):
        if not is_place(array.shape, place) or not are_values(array.shape, values):
            raise InvalidCell(index)


def is_place(shape, place):
    """Returns True if a tuple of integers is a place of a shape, otherwise False."""
    if len(place) != len(shape.dims):
        return False
    return all([low <= coordinate <= high for coordinate, (name, low, high, step) in zip(place, shape.dims)])


def are_values(shape, values):
    """Returns True if a tuple has a value, or None, for each attribute of a shape, otherwise False."""
    if len(values) != len(shape.attrs):
        return False
    return all([value is None or is_value(kind, value) for value, (name, kind) in zip(values, shape.attrs)])
