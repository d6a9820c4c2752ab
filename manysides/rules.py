"""Rules that keep the meaning of a query, and rewriting by them (chapter 12)."""

from manysides.boxrules import box_across, box_box, box_group, box_join, box_keep, box_only, box_shift, box_turned
from manysides.boxrules import box_whole, box_window, box_with, is_over
from manysides.errors import InvalidQuery
from manysides.expressions import parts_of
from manysides.queries import inside_out, operators, part_numbers, shape_of, with_parts
from manysides.shaping import first_of

RULES = ("keep keep", "keep true", "box box", "box whole", "box keep", "box with", "box only", "box shift", "box join",
         "box across", "box turned", "box group", "box window", "keep with", "keep only", "keep join", "keep across",
         "keep group", "only only", "only with", "with with", "shift shift", "turned turned", "turned same")
TRUE = ("value", "flag", True)


def applied(name, query, shapes):
    """Returns the query to which a rule leads a query, or None if it does not apply."""
    try:
        shape_of(query, shapes)
    except InvalidQuery:
        return None
    return led(name, query, shapes)


def led(name, query, shapes):
    """Returns the query to which a rule leads a query that has a shape, or None if it does not apply."""
    action = ACTIONS[name]
    return action(query, shapes)


def rewritten(query, shapes):
    """Returns the query to which the rules lead a query that has a shape, until none applies any more."""
    current = query
    rows = operators(current)
    number = 0
    while number < len(rows):
        found = first_led(rows[number], shapes)
        if found is None:
            number += 1
        else:
            numbers = part_numbers(rows)
            current = replaced(rows, numbers, number, found)
            rows = operators(current)
            # Rules look at an operator, the word and the facts of its parts, and shapes, which they keep. So of the
            # operators up to this one, to which no rule applied, one may apply now only to that which it is a part of.
            number = whole_of(numbers, number)
    return current


def first_led(query, shapes):
    """Returns the query to which the first rule that applies leads a query, or None."""
    for name in RULES:
        found = led(name, query, shapes)
        if found is not None:
            return found
    return None


def whole_of(numbers, number):
    """Returns the number of the operator that another one is a part of, or 0 for the outermost one itself."""
    for whole, inner in enumerate(numbers):
        if number in inner:
            return whole
    return 0


def replaced(rows, numbers, number, other):
    """Returns a query, told by its operators and the numbers of their parts, with another query in one's place."""
    found = list(rows)
    for index in inside_out(numbers):
        if index == number:
            found[index] = other
        else:
            found[index] = with_parts(rows[index], tuple([found[inner] for inner in numbers[index]]))
    return found[0]


def put_in(e, definitions):
    """Returns an expression with the expressions of a dict of names in place of attributes."""
    if e[0] == "attr":
        return definitions.get(e[1], e)
    parts = parts_of(e)
    return (e[0], *[put_in(part, definitions) for part in parts]) if parts else e


def names_in(e):
    """Returns the ascending list of the names of the attributes and dimensions in an expression."""
    return sorted(set(told_in(e, ("attr", "dim"))))


def told_in(e, words):
    """Returns the list of the names in an expression that stand behind some words."""
    if e[0] in words:
        return [e[1]]
    return [name for part in parts_of(e) for name in told_in(part, words)]


def are_all_in(names, known):
    """Returns True if all names are among those that are known, otherwise False."""
    return all([name in known for name in names])


def keep_keep(query, shapes):
    """Applies "keep keep"."""
    if not is_over(query, "keep", "keep"):
        return None
    _, (_, part, inner), outer = query
    return ("keep", part, ("and", inner, outer))


def keep_true(query, shapes):
    """Applies "keep true"."""
    return query[1] if query[0] == "keep" and query[2] == TRUE else None


def keep_with(query, shapes):
    """Applies "keep with"."""
    if not is_over(query, "keep", "with"):
        return None
    _, (_, part, definitions), condition = query
    put = put_in(condition, {name: expression for name, expression in definitions})
    return ("with", ("keep", part, put), definitions)


def keep_only(query, shapes):
    """Applies "keep only"."""
    if not is_over(query, "keep", "only"):
        return None
    _, (_, part, names), condition = query
    return ("only", ("keep", part, condition), names)


def keep_pair(query, names, known, others):
    """Returns a "keep" over two parts as these over the "keep" of that part of which all names are, or None."""
    _, (word, first, second), condition = query
    if are_all_in(names, known):
        return (word, ("keep", first, condition), second)
    if are_all_in(names, others):
        return (word, first, ("keep", second, condition))
    return None


def keep_join(query, shapes):
    """Applies "keep join"."""
    if not is_over(query, "keep", "join"):
        return None
    first, second = [first_of(shape_of(part, shapes).attrs) for part in query[1][1:]]
    return keep_pair(query, told_in(query[2], ("attr",)), first, second)


def keep_across(query, shapes):
    """Applies "keep across"."""
    if not is_over(query, "keep", "across"):
        return None
    both = [shape_of(part, shapes) for part in query[1][1:]]
    first, second = [first_of(shape.dims + shape.attrs) for shape in both]
    return keep_pair(query, names_in(query[2]), first, second)


def keep_group(query, shapes):
    """Applies "keep group"."""
    if not is_over(query, "keep", "group") or not query[1][2] or told_in(query[2], ("attr",)):
        return None
    _, (_, part, names, aggregates), condition = query
    return ("group", ("keep", part, condition), names, aggregates)


def only_only(query, shapes):
    """Applies "only only"."""
    return ("only", query[1][1], query[2]) if is_over(query, "only", "only") else None


def only_with(query, shapes):
    """Applies "only with"."""
    if not is_over(query, "only", "with"):
        return None
    _, (_, part, definitions), names = query
    left = tuple([definition for definition in definitions if definition[0] in names])
    if len(left) == len(definitions):
        return None
    return ("only", ("with", part, left) if left else part, names)


def with_with(query, shapes):
    """Applies "with with"."""
    if not is_over(query, "with", "with"):
        return None
    _, (_, part, inner), outer = query
    known = {name: expression for name, expression in inner}
    # A name that is defined again keeps the position that it has among the inner ones.
    found = {name: expression for name, expression in inner}
    for name, expression in outer:
        found[name] = put_in(expression, known)
    return ("with", part, tuple([(name, found[name]) for name in found]))


def shift_shift(query, shapes):
    """Applies "shift shift"."""
    if not is_over(query, "shift", "shift"):
        return None
    _, (_, part, inner), outer = query
    found = {name: by for name, by in inner}
    for name, by in outer:
        found[name] = found.get(name, 0) + by
    return ("shift", part, tuple([(name, found[name]) for name in found]))


def turned_turned(query, shapes):
    """Applies "turned turned"."""
    return ("turned", query[1][1], query[2]) if is_over(query, "turned", "turned") else None


def turned_same(query, shapes):
    """Applies "turned same"."""
    if query[0] != "turned":
        return None
    return query[1] if list(query[2]) == first_of(shape_of(query[1], shapes).dims) else None


# The function that applies each rule to a query that has a shape.
ACTIONS = {"keep keep": keep_keep, "keep true": keep_true, "box box": box_box, "box whole": box_whole,
           "box keep": box_keep, "box with": box_with, "box only": box_only, "box shift": box_shift,
           "box join": box_join, "box across": box_across, "box turned": box_turned, "box group": box_group,
           "box window": box_window, "keep with": keep_with, "keep only": keep_only, "keep join": keep_join,
           "keep across": keep_across, "keep group": keep_group, "only only": only_only, "only with": only_with,
           "with with": with_with, "shift shift": shift_shift, "turned turned": turned_turned,
           "turned same": turned_same}
