"""Expressions as texts (point 22.3)."""

from manysides.errors import InvalidWords

DEEPEST = 30
# The levels of what waits for a further part; brackets and functions have the level 0.
BRACKET_LEVEL = 0
NOT_LEVEL = 3
COMPARISON_LEVEL = 4
NEG_LEVEL = 8
# The operators between two parts: their levels, from the loosest to the tightest one, and their words.
OPERATORS = {"or": (1, "or"), "and": (2, "and"), "=": (4, "eq"), "<>": (4, "ne"), "<": (4, "lt"), "<=": (4, "le"),
             ">": (4, "gt"), ">=": (4, "ge"), "++": (5, "joined"), "+": (6, "add"), "-": (6, "sub"), "*": (7, "mul"),
             "/": (7, "div"), "mod": (7, "mod")}
# What has its parts in brackets: the word of the expression, the number of the parts, and what follows before them.
# The bracket itself makes no expression.
ENCLOSING = {"(": ("", 1, ()), "abs": ("abs", 1, ("(",)), "length": ("length", 1, ("(",)),
             "is": ("is missing", 1, ("missing", "(")), "if": ("if", 3, ("(",)), "orelse": ("or else", 2, ("(",))}
BEGINNINGS = ("(", "abs", "length", "is", "if", "orelse", "not", "-", "@", "true", "false", "missing")


class Begun:
    """An expression of which something was read, and that waits for further parts.

    The parts, those of it that were read, are pairs of an expression and how deep expressions lie in it.
    """

    def __init__(self, level, word, count, parts):
        self.level = level
        self.word = word
        self.count = count
        self.parts = parts

    def completed(self, last):
        """Returns the pair of this expression with its last part."""
        if self.word == "":
            return last
        told = self.parts + [last]
        expressions = [expression for expression, depth in told]
        return ((self.word, *expressions), 1 + max([depth for expression, depth in told]))


def begins_expression(reader):
    """Returns True if the next word can begin an expression, otherwise False."""
    return reader.kind() in ("number", "string") or reader.is_name() or reader.fixed() in BEGINNINGS


def next_expression(reader):
    """Returns the expression that comes next among the words of a reader. Raises InvalidWords."""
    first = reader.next_place()
    # What was begun, from the outside to the inside. No recursion: words may be nested as often as there are words.
    waiting = []
    found = first_part(reader, waiting)
    while True:
        level = level_of_operator(reader, waiting)
        while waiting and waiting[-1].level >= max(level, 1):
            begun = waiting.pop()
            found = begun.completed(found)
        if level == 0 and not waiting:
            break
        if level > 0:
            _, word = OPERATORS[reader.take()]
            waiting.append(Begun(level, word, 2, [found]))
            found = first_part(reader, waiting)
        else:
            found = behind_part(reader, waiting, found)
    expression, depth = found
    if depth > DEEPEST:
        raise InvalidWords(first)
    return expression


def level_of_operator(reader, waiting):
    """Returns the level of the next word if it is an operator that can follow a part here, otherwise 0."""
    level, _ = OPERATORS.get(reader.fixed(), (0, ""))
    if level == COMPARISON_LEVEL and is_compared(waiting):
        return 0
    return level


def is_compared(waiting):
    """Returns True if the part that was read last lies in the second part of a comparison, otherwise False."""
    for begun in reversed(waiting):
        if begun.level <= COMPARISON_LEVEL:
            return begun.level == COMPARISON_LEVEL
    return False


def behind_part(reader, waiting, found):
    """Goes on behind a part in brackets. Returns the pair of the expression that is complete or read next."""
    begun = waiting[-1]
    if len(begun.parts) + 1 < begun.count:
        reader.need(",")
        begun.parts.append(found)
        return first_part(reader, waiting)
    reader.need(")")
    waiting.pop()
    return begun.completed(found)


def first_part(reader, waiting):
    """Returns the pair of the next expression without parts. What begins before it is put to what waits."""
    while True:
        if reader.fixed() in ENCLOSING:
            word, count, others = ENCLOSING[reader.take()]
            for other in others:
                reader.need(other)
            waiting.append(Begun(BRACKET_LEVEL, word, count, []))
        elif reader.fixed() == "not" and (not waiting or waiting[-1].level <= NOT_LEVEL):
            reader.take()
            waiting.append(Begun(NOT_LEVEL, "not", 1, []))
        elif reader.passes("-"):
            if reader.kind() == "number":
                return (("value", "int", -reader.take()), 1)
            waiting.append(Begun(NEG_LEVEL, "neg", 1, []))
        else:
            return (next_leaf(reader), 1)


def next_leaf(reader):
    """Returns the next expression without parts, but for a value with a sign. Raises InvalidWords."""
    if reader.kind() == "number":
        return ("value", "int", reader.take())
    if reader.kind() == "string":
        return ("value", "text", reader.take())
    if reader.passes("true"):
        return ("value", "flag", True)
    if reader.passes("false"):
        return ("value", "flag", False)
    if reader.passes("missing"):
        return ("value", reader.need_one_of(("int", "flag", "text")), None)
    if reader.passes("@"):
        return ("dim", reader.need_name())
    return ("attr", reader.need_name())
