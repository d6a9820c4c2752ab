"""Expressions: their kinds in a shape, and their values in a cell (chapter 05)."""

from manysides.errors import InvalidQuery
from manysides.kinds import KINDS, TEXT_BOUND, is_value
from manysides.shapes import attr_index, dim_index

LEAVES = ("value", "attr", "dim")
COMPARISONS = ("eq", "ne", "lt", "le", "gt", "ge")
# The words whose value need not be missing where a part is missing.
LOOSE_WORDS = ("is missing", "and", "or", "if", "or else")
# The kinds of the parts and the kind of the value, for the words that always have the same ones.
SIGNATURES = {
    "neg": (("int",), "int"),
    "abs": (("int",), "int"),
    "not": (("flag",), "flag"),
    "length": (("text",), "int"),
    "add": (("int", "int"), "int"),
    "sub": (("int", "int"), "int"),
    "mul": (("int", "int"), "int"),
    "div": (("int", "int"), "int"),
    "mod": (("int", "int"), "int"),
    "joined": (("text", "text"), "text"),
    "and": (("flag", "flag"), "flag"),
    "or": (("flag", "flag"), "flag"),
}


def parts_of(expression):
    """Returns the list of the parts that are expressions."""
    if expression[0] in LEAVES:
        return []
    return list(expression[1:])


def kind_of(expression, shape):
    """Returns the kind of an expression. Raises InvalidQuery."""
    kind, _ = kind_from(expression, shape, 0)
    return kind


def kind_from(expression, shape, number):
    """Returns the kind of the expression with a number, and the number of the next one behind it."""
    kinds = []
    upcoming = number + 1
    for part in parts_of(expression):
        kind, upcoming = kind_from(part, shape, upcoming)
        kinds.append(kind)
    own = leaf_kind(expression, shape) if expression[0] in LEAVES else kind_over(expression[0], kinds)
    if own is None:
        raise InvalidQuery(number)
    return own, upcoming


def leaf_kind(expression, shape):
    """Returns the kind of an expression without parts, or None if it is wrong."""
    word = expression[0]
    if word == "attr":
        index = attr_index(shape, expression[1])
        return None if index is None else shape.attrs[index][1]
    if word == "dim":
        return None if dim_index(shape, expression[1]) is None else "int"
    kind, value = expression[1:]
    return kind if kind in KINDS and (value is None or is_value(kind, value)) else None


def kind_over(word, kinds):
    """Returns the kind of an expression with a word and parts of some kinds, or None if they are wrong."""
    if word == "is missing":
        return "flag"
    if word in COMPARISONS:
        return "flag" if kinds[0] == kinds[1] else None
    if word == "if":
        return kinds[1] if kinds[0] == "flag" and kinds[1] == kinds[2] else None
    if word == "or else":
        return kinds[0] if kinds[0] == kinds[1] else None
    needed, kind = SIGNATURES[word]
    return kind if tuple(kinds) == needed else None


def value_of(expression, shape, place, values):
    """Returns the value of a right expression in a cell, or None if it is missing."""
    word = expression[0]
    if word == "value":
        return expression[2]
    if word == "attr":
        return values[attr_index(shape, expression[1])]
    if word == "dim":
        return place[dim_index(shape, expression[1])]
    parts = [value_of(part, shape, place, values) for part in parts_of(expression)]
    if word in LOOSE_WORDS:
        return loose_value(word, parts)
    if None in parts:
        return None
    return strict_value(word, parts)


def loose_value(word, parts):
    """Returns the value for one of the loose words; parts may be missing."""
    if word == "is missing":
        return parts[0] is None
    if word == "and":
        return both(parts[0], parts[1])
    if word == "or":
        return either(parts[0], parts[1])
    if word == "if":
        return chosen(parts[0], parts[1], parts[2])
    return parts[1] if parts[0] is None else parts[0]


def both(first, second):
    """Returns what "and" makes of two truth values, which may be missing."""
    if first is False or second is False:
        return False
    return None if first is None or second is None else True


def either(first, second):
    """Returns what "or" makes of two truth values, which may be missing."""
    if first is True or second is True:
        return True
    return None if first is None or second is None else False


def chosen(condition, first, second):
    """Returns what "if" makes of its parts."""
    if condition is None:
        return None
    return first if condition else second


def strict_value(word, parts):
    """Returns the value for one of the other words; no part is missing."""
    first = parts[0]
    if word == "neg":
        return -first
    if word == "abs":
        return abs(first)
    if word == "not":
        return not first
    if word == "length":
        return len(first)
    second = parts[1]
    if word == "joined":
        return first + second if len(first) + len(second) <= TEXT_BOUND else None
    if word in COMPARISONS:
        return compared(word, first, second)
    number = reckoned(word, first, second)
    return number if is_value("int", number) else None


def compared(word, first, second):
    """Returns the outcome of a comparison of two values of the same kind."""
    if word == "eq":
        return first == second
    if word == "ne":
        return first != second
    if word == "lt":
        return first < second
    if word == "le":
        return first <= second
    if word == "gt":
        return first > second
    return first >= second


def reckoned(word, first, second):
    """Returns the outcome of reckoning with two integers, not cut to any bounds, or None for a divisor 0."""
    if word == "add":
        return first + second
    if word == "sub":
        return first - second
    if word == "mul":
        return first * second
    if second == 0:
        return None
    if word == "div":
        return first // second
    return first % second
