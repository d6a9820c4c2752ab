"""Kinds and their values (chapter 02)."""

from manysides.texts import is_text

KINDS = ("int", "flag", "text")
INT_BOUND = 10 ** 30
TEXT_BOUND = 200


def is_value(kind, value):
    """Returns True if something is a value of a kind, and not missing, otherwise False."""
    if kind == "int":
        # Python counts True and False among the integers, this program does not.
        return isinstance(value, int) and not isinstance(value, bool) and -INT_BOUND < value < INT_BOUND
    if kind == "flag":
        return isinstance(value, bool)
    return kind == "text" and isinstance(value, str) and len(value) <= TEXT_BOUND and is_text(value)


def least_of(kind):
    """Returns the least value of a kind."""
    if kind == "int":
        return 1 - INT_BOUND
    if kind == "flag":
        return False
    return ""


def greatest_of(kind):
    """Returns the greatest value of a kind."""
    if kind == "int":
        return INT_BOUND - 1
    if kind == "flag":
        return True
    return "~" * TEXT_BOUND


def is_before(first, second):
    """Returns True if the first one of two values of a kind comes before the second one, otherwise False."""
    return first < second


def is_between(least, value, greatest):
    """Returns True if a value lies from the least to the greatest one of the same kind, otherwise False."""
    return not is_before(value, least) and not is_before(greatest, value)
