"""Queries as texts (point 22.2)."""

from manysides.errors import InvalidWords
from manysides.formulas import begins_expression, next_expression
from manysides.words import WordReader

AGGREGATE_WORDS = ("count", "known", "sum", "least", "greatest", "first", "all", "any")
PAIR_WORDS = ("join", "either", "across", "match")
VALUE_WORDS = ("-", "true", "false", "missing")


def parse_expression(text):
    """Returns the expression of a text. Raises InvalidWords."""
    reader = WordReader(text)
    expression = next_expression(reader)
    if not reader.is_at_end():
        raise InvalidWords(reader.next_place())
    return expression


def parse_query(text):
    """Returns the query of a text. Raises InvalidWords."""
    reader = WordReader(text)
    # The sources that were begun, from the outside to the inside: lists of a word and the queries that were read.
    # No recursion: words may be nested as often as there are words.
    waiting = []
    found = first_source(reader, waiting)
    while not reader.is_at_end() or waiting:
        if reader.passes("|"):
            found = next_step(reader, found)
        elif waiting:
            found = behind_query(reader, waiting, found)
        else:
            raise InvalidWords(reader.next_place())
    return found


def first_source(reader, waiting):
    """Returns the next source that is a NAME, as a query. What begins before it is put to what waits."""
    while reader.fixed() == "(" or reader.fixed() in PAIR_WORDS:
        word = reader.take()
        if word != "(":
            reader.need("(")
        waiting.append([word])
    return ("scan", reader.need_name())


def behind_query(reader, waiting, found):
    """Goes on behind a query in a source. Returns the query of the source that is complete or read next."""
    word, *firsts = waiting[-1]
    if word != "(" and not firsts:
        reader.need(";")
        waiting[-1].append(found)
        return first_source(reader, waiting)
    reader.need(")")
    waiting.pop()
    if word == "(":
        return found
    if word != "match":
        return (word, *firsts, found)
    reader.need("on")
    pairs = named_items(reader, name_and_name)
    return (word, *firsts, found, pairs)


def next_step(reader, part):
    """Returns the query of the next step over a part."""
    word = reader.need_one_of(list(STEPS))
    step = STEPS[word]
    facts = step(reader)
    return (word, part, *facts)


def listed(reader, has_items, item):
    """Returns the tuple of the items of a list, each read by a function."""
    if not has_items:
        return ()
    found = [item(reader)]
    while reader.passes(","):
        found.append(item(reader))
    return tuple(found)


def named_items(reader, item):
    """Returns the tuple of the items of a list in which each one begins with a NAME."""
    return listed(reader, reader.is_name(), item)


def name_item(reader):
    """Returns the item that is a NAME."""
    return reader.need_name()


def name_and_name(reader):
    """Returns the item NAME "=" NAME."""
    first = reader.need_name()
    reader.need("=")
    return (first, reader.need_name())


def range_item(reader):
    """Returns the item NAME INT "to" INT."""
    name = reader.need_name()
    low = reader.need_small_int()
    reader.need("to")
    return (name, low, reader.need_small_int())


def number_item(reader):
    """Returns the item NAME "by" INT."""
    name = reader.need_name()
    reader.need("by")
    return (name, reader.need_small_int())


def definition_item(reader):
    """Returns the item NAME "=" expression."""
    name = reader.need_name()
    reader.need("=")
    return (name, next_expression(reader))


def renaming_item(reader):
    """Returns the item NAME "as" NAME."""
    old = reader.need_name()
    reader.need("as")
    return (old, reader.need_name())


def span_item(reader):
    """Returns the item NAME "back" INT "ahead" INT."""
    name = reader.need_name()
    reader.need("back")
    before = reader.need_small_int()
    reader.need("ahead")
    return (name, before, reader.need_small_int())


def dim_item(reader):
    """Returns the item NAME INT "to" INT "step" INT."""
    name, low, high = range_item(reader)
    reader.need("step")
    return (name, low, high, reader.need_small_int())


def value_item(reader):
    """Returns the item that is a value."""
    if reader.passes("true"):
        return True
    if reader.passes("false"):
        return False
    if reader.passes("missing"):
        return None
    return reader.take() if reader.kind() == "string" else reader.need_int()


def key_item(reader):
    """Returns the item expression "up", or "down"."""
    expression = next_expression(reader)
    return (expression, reader.need_one_of(("up", "down")))


def aggregate_item(reader):
    """Returns the item NAME "=" WORD "(" expression ")", with None for an expression that is missing."""
    name = reader.need_name()
    reader.need("=")
    word = reader.need_one_of(AGGREGATE_WORDS)
    reader.need("(")
    expression = next_expression(reader) if reader.fixed() != ")" else None
    reader.need(")")
    return (name, word, expression)


def aggregates_behind(reader, facts):
    """Returns the tuple of some facts and of the aggregates that follow them behind a ":"."""
    reader.need(":")
    return (facts, named_items(reader, aggregate_item))


def box_facts(reader):
    """Returns the facts of the step "box". The functions below do the same for the other steps."""
    return (named_items(reader, range_item),)


def shift_facts(reader):
    """Returns the facts of "shift"."""
    return (named_items(reader, number_item),)


def keep_facts(reader):
    """Returns the facts of "keep"."""
    return (next_expression(reader),)


def with_facts(reader):
    """Returns the facts of "with"."""
    return (named_items(reader, definition_item),)


def names_facts(reader):
    """Returns the facts of "only" and "turned"."""
    return (named_items(reader, name_item),)


def named_facts(reader):
    """Returns the facts of "named"."""
    return (named_items(reader, renaming_item),)


def group_facts(reader):
    """Returns the facts of "group"."""
    return aggregates_behind(reader, named_items(reader, name_item))


def window_facts(reader):
    """Returns the facts of "window"."""
    return aggregates_behind(reader, named_items(reader, span_item))


def regrid_facts(reader):
    """Returns the facts of "regrid"."""
    return aggregates_behind(reader, named_items(reader, number_item))


def reform_facts(reader):
    """Returns the facts of "reform"."""
    return aggregates_behind(reader, named_items(reader, dim_item))


def filled_facts(reader):
    """Returns the facts of "filled"."""
    has_items = reader.kind() in ("number", "string") or reader.fixed() in VALUE_WORDS
    return (listed(reader, has_items, value_item),)


def ranked_facts(reader):
    """Returns the facts of "ranked"."""
    return (reader.need_name(),)


def sorted_facts(reader):
    """Returns the facts of "sorted"."""
    keys = listed(reader, begins_expression(reader), key_item)
    reader.need("as")
    name = reader.need_name()
    reader.need("limit")
    return (keys, name, reader.need_small_int())


# The functions that read the facts of each step.
STEPS = {"box": box_facts, "shift": shift_facts, "keep": keep_facts, "with": with_facts, "only": names_facts,
         "named": named_facts, "group": group_facts, "window": window_facts, "regrid": regrid_facts,
         "reform": reform_facts, "turned": names_facts, "filled": filled_facts, "ranked": ranked_facts,
         "sorted": sorted_facts}
