"""The rules for a "box" (chapter 12). Each function returns the query to which its rule leads, or None."""

from manysides.queries import shape_of
from manysides.shapes import dim_index
from manysides.shaping import facts_for_dims, first_of


def is_over(query, outer, inner):
    """Returns True if a query has the one word, and its first part the other one, otherwise False."""
    return query[0] == outer and query[1][0] == inner


def box_box(query, shapes):
    """Applies "box box"."""
    if not is_over(query, "box", "box"):
        return None
    _, (_, part, ranges), others = query
    told = {name: (low, high) for name, low, high in others}
    met = []
    for name, low, high in ranges:
        least, greatest = told.get(name, (low, high))
        met.append((name, max(low, least), min(high, greatest)))
    names = first_of(ranges)
    return ("box", part, tuple(met + [other for other in others if other[0] not in names]))


def box_whole(query, shapes):
    """Applies "box whole"."""
    if query[0] != "box":
        return None
    shape = shape_of(query[1], shapes)
    for name, low, high in query[2]:
        _, least, greatest, _ = shape.dims[dim_index(shape, name)]
        if low > least or high < greatest:
            return None
    return query[1]


def box_inwards(query, word):
    """Returns a "box" over a word with one part as that word over the "box", or None."""
    if not is_over(query, "box", word):
        return None
    _, (_, part, *facts), ranges = query
    return (word, ("box", part, ranges), *facts)


def box_keep(query, shapes):
    """Applies "box keep"."""
    return box_inwards(query, "keep")


def box_with(query, shapes):
    """Applies "box with"."""
    return box_inwards(query, "with")


def box_only(query, shapes):
    """Applies "box only"."""
    return box_inwards(query, "only")


def box_shift(query, shapes):
    """Applies "box shift"."""
    if not is_over(query, "box", "shift"):
        return None
    _, (_, part, shifts), ranges = query
    steps = {name: by for name, by in shifts}
    moved = [(name, low - steps.get(name, 0), high - steps.get(name, 0)) for name, low, high in ranges]
    return ("shift", ("box", part, tuple(moved)), shifts)


def box_join(query, shapes):
    """Applies "box join"."""
    if not is_over(query, "box", "join"):
        return None
    _, (_, first, second), ranges = query
    return ("join", ("box", first, ranges), ("box", second, ranges))


def box_across(query, shapes):
    """Applies "box across"."""
    if not is_over(query, "box", "across"):
        return None
    _, (_, first, second), ranges = query
    names = first_of(shape_of(first, shapes).dims)
    own = [told for told in ranges if told[0] in names]
    others = [told for told in ranges if told[0] not in names]
    return ("across", boxed(first, own), boxed(second, others))


def boxed(query, ranges):
    """Returns a query in a "box" with a list of ranges, or the query itself if there are none."""
    return ("box", query, tuple(ranges)) if ranges else query


def box_turned(query, shapes):
    """Applies "box turned"."""
    return box_inwards(query, "turned")


def box_group(query, shapes):
    """Applies "box group"."""
    return box_inwards(query, "group") if is_over(query, "box", "group") and query[1][2] else None


def box_window(query, shapes):
    """Applies "box window"."""
    if not is_over(query, "box", "window"):
        return None
    _, (_, part, spans, aggregates), ranges = query
    shape = shape_of(part, shapes)
    margins = {dim[0]: margin for dim, margin in zip(shape.dims, facts_for_dims(shape, spans, (0, 0)))}
    inner = []
    reaches_all = True
    for name, low, high in ranges:
        _, least, greatest, _ = shape.dims[dim_index(shape, name)]
        before, behind = margins[name]
        inner.append((name, max(low, least) - before, min(high, greatest) + behind))
        reaches_all = reaches_all and inner[-1][1] <= least and inner[-1][2] >= greatest
    return None if reaches_all else ("box", ("window", ("box", part, tuple(inner)), spans, aggregates), ranges)
