"""Writing queries and expressions as texts (point 22.5)."""

from manysides.expressions import parts_of
from manysides.queries import inside_out, operators, part_numbers
from manysides.tokens import RESERVED

SIGNS = {"or": "or", "and": "and", "eq": "=", "ne": "<>", "lt": "<", "le": "<=", "gt": ">", "ge": ">=", "joined": "++",
         "add": "+", "sub": "-", "mul": "*", "div": "/", "mod": "mod"}
# What has its parts in brackets: how it begins.
FUNCTIONS = {"abs": "abs", "length": "length", "is missing": "is missing", "if": "if", "or else": "orelse"}


def print_expression(expression):
    """Returns the text of an expression."""
    word = expression[0]
    if word == "value":
        return f"missing {expression[1]}" if expression[2] is None else value_text(expression[2])
    if word == "attr":
        return name_text(expression[1])
    if word == "dim":
        return f"@{name_text(expression[1])}"
    parts = parts_of(expression)
    if word in FUNCTIONS:
        inner = joined_texts([print_expression(part) for part in parts])
        return f"{FUNCTIONS[word]}({inner})"
    if word == "neg":
        return f"-({print_expression(parts[0])})"
    if word == "not":
        return f"not {operand_text(parts[0])}"
    return f"{operand_text(parts[0])} {SIGNS[word]} {operand_text(parts[1])}"


def operand_text(expression):
    """Returns the text of an expression as an operand, in brackets if an operator is its outermost word."""
    text = print_expression(expression)
    return f"({text})" if expression[0] in SIGNS or expression[0] in ("not", "neg") else text


def value_text(value):
    """Returns the text of a value, or of a missing one."""
    if value is None:
        return "missing"
    if isinstance(value, bool):
        return "true" if value else "false"
    if isinstance(value, int):
        return str(value)
    escaped = value.replace("\\", "\\\\").replace("\"", "\\\"").replace("\n", "\\n")
    return f'"{escaped}"'


def name_text(name):
    """Returns the text of a name; it is quoted if it is reserved."""
    return f"'{name}'" if name in RESERVED else name


def joined_texts(texts):
    """Returns the text of the items of a list."""
    return ", ".join(texts)


def print_query(query):
    """Returns the text of a query."""
    rows = operators(query)
    numbers = part_numbers(rows)
    texts = [""] * len(rows)
    for number in inside_out(numbers):
        texts[number] = text_over(rows[number], [texts[inner] for inner in numbers[number]])
    return texts[0]


def text_over(query, parts):
    """Returns the text of a query, from the texts of its parts."""
    word = query[0]
    if word == "scan":
        return name_text(query[1])
    if len(parts) == 1:
        action = FACTS[word]
        facts = query[2:]
        return f"{parts[0]} | {word}{action(*facts)}"
    pair = f"{word}({parts[0]}; {parts[1]})"
    if word != "match":
        return pair
    told = [f"{name_text(first)} = {name_text(second)}" for first, second in query[3]]
    return f"{pair} on{list_text(told)}"


def list_text(texts):
    """Returns the text of a list behind a word: a space and the items, or nothing if there are none."""
    return f" {joined_texts(texts)}" if texts else ""


def aggregates_text(aggregates):
    """Returns the text of aggregates behind a list."""
    told = [aggregate_text(name, word, expression) for name, word, expression in aggregates]
    return f":{list_text(told)}"


def aggregate_text(name, word, expression):
    """Returns the text of an aggregate."""
    inner = "" if expression is None else print_expression(expression)
    return f"{name_text(name)} = {word}({inner})"


def box_text(ranges):
    """Returns the text of the facts of a "box". The functions below do the same for the other steps."""
    return list_text([f"{name_text(name)} {low} to {high}" for name, low, high in ranges])


def numbers_text(facts):
    """Returns the text of the shifts of a "shift", or of the factors of a "regrid"."""
    return list_text([f"{name_text(name)} by {number}" for name, number in facts])


def keep_text(condition):
    """Returns the text of the facts of a "keep"."""
    return f" {print_expression(condition)}"


def with_text(definitions):
    """Returns the text of the facts of a "with"."""
    return list_text([f"{name_text(name)} = {print_expression(told)}" for name, told in definitions])


def names_text(names):
    """Returns the text of the facts of an "only" or a "turned"."""
    return list_text([name_text(name) for name in names])


def named_text(pairs):
    """Returns the text of the facts of a "named"."""
    return list_text([f"{name_text(old)} as {name_text(new)}" for old, new in pairs])


def group_text(dims, aggregates):
    """Returns the text of the facts of a "group"."""
    return names_text(dims) + aggregates_text(aggregates)


def window_text(spans, aggregates):
    """Returns the text of the facts of a "window"."""
    told = [f"{name_text(name)} back {before} ahead {behind}" for name, before, behind in spans]
    return list_text(told) + aggregates_text(aggregates)


def regrid_text(factors, aggregates):
    """Returns the text of the facts of a "regrid"."""
    return numbers_text(factors) + aggregates_text(aggregates)


def reform_text(dims, aggregates):
    """Returns the text of the facts of a "reform"."""
    told = [f"{name_text(name)} {low} to {high} step {step}" for name, low, high, step in dims]
    return list_text(told) + aggregates_text(aggregates)


def filled_text(values):
    """Returns the text of the facts of a "filled"."""
    return list_text([value_text(value) for value in values])


def ranked_text(name):
    """Returns the text of the facts of a "ranked"."""
    return f" {name_text(name)}"


def sorted_text(keys, name, limit):
    """Returns the text of the facts of a "sorted"."""
    told = [f"{print_expression(expression)} {way}" for expression, way in keys]
    return f"{list_text(told)} as {name_text(name)} limit {limit}"


# The functions that tell the text of the facts of each step, from the facts.
FACTS = {"box": box_text, "shift": numbers_text, "keep": keep_text, "with": with_text, "only": names_text,
         "named": named_text, "group": group_text, "window": window_text, "regrid": regrid_text, "reform": reform_text,
         "turned": names_text, "filled": filled_text, "ranked": ranked_text, "sorted": sorted_text}
