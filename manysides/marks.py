"""Marks of chunks: what their values lie between (chapter 08)."""

from manysides.kinds import is_between


def marks_of(shape, cells):
    """Returns the marks of a dict of cells, at least one."""
    entries = [entry_of([cells[place][index] for place in cells]) for index in range(len(shape.attrs))]
    return (len(cells), tuple(entries))


def entry_of(values):
    """Returns the number of the missing values, and the least and the greatest one of the others."""
    known = [value for value in values if value is not None]
    return (len(values) - len(known), min(known, default=None), max(known, default=None))


def keeps_to(shape, cells, marks):
    """Returns True if the cells of a dict keep to marks, otherwise False."""
    for values in cells.values():
        for index in range(len(shape.attrs)):
            if not fits(values[index], marks[1][index]):
                return False
    return True


def fits(value, entry):
    """Returns True if a value, or None, keeps to the entry of its attribute, otherwise False."""
    missing, least, greatest = entry
    if value is None:
        return missing > 0
    return least is not None and is_between(least, value, greatest)
