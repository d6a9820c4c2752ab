"""What is asked of the parts of an operator for a region of its answer (points 13.3 and 13.4)."""

from manysides.regions import cut, moved, whole_region, widened
from manysides.shapes import dim_index
from manysides.shaping import facts_for_dims


def asked_of(query, shapes, region):
    """Returns the list of the regions asked of the parts of an operator, with None where nothing is asked.

    The shapes are those of the parts.
    """
    if query[0] in SAME_REGION:
        return [region]
    if query[0] in WHOLE_BOUNDS:
        return [whole_region(shapes[0])]
    action = ASKED[query[0]]
    return action(query, shapes, region)


def handed_on(query, condition):
    """Returns the condition that an operator hands on to its parts, or None."""
    if query[0] == "box":
        return condition
    if query[0] != "keep":
        return None
    return query[2] if condition is None else ("and", condition, query[2])


def asks_within(layout, region):
    """Returns for each operator of a query a pair of a region and a condition, or None if nothing is asked of it."""
    asks = [None] * len(layout.rows)
    asks[0] = (region, None)
    for number, row in enumerate(layout.rows):
        if asks[number] is not None and row[0] != "scan":
            asked, condition = asks[number]
            regions = asked_of(row, layout.part_shapes(number), asked)
            for inner, told in zip(layout.parts[number], regions):
                asks[inner] = None if told is None else (told, handed_on(row, condition))
    return asks


def shift_asked(query, shapes, region):
    """Returns what is asked for a "shift"."""
    return [moved(region, [-told[0] for told in facts_for_dims(shapes[0], query[2], (0,))])]


def turned_asked(query, shapes, region):
    """Returns what is asked for a "turned"."""
    return [told_pairs(query[2], region, shapes[0])]


def group_asked(query, shapes, region):
    """Returns what is asked for a "group"."""
    return [told_pairs(query[2], region, shapes[0])]


def told_pairs(names, region, shape):
    """Returns the region with the pairs of one whose dimensions have some names, and else the whole bounds."""
    pairs = {name: pair for name, pair in zip(names, region)}
    return tuple([pairs.get(name, (low, high)) for name, low, high, step in shape.dims])


def join_asked(query, shapes, region):
    """Returns what is asked for a "join"."""
    return [region, region]


def either_asked(query, shapes, region):
    """Returns what is asked for an "either"."""
    return [cut(region, whole_region(shape)) for shape in shapes]


def across_asked(query, shapes, region):
    """Returns what is asked for an "across"."""
    count = len(shapes[0].dims)
    return [region[:count], region[count:]]


def match_asked(query, shapes, region):
    """Returns what is asked for a "match"."""
    first, second = shapes
    count = len(first.dims)
    pairs = {other: region[dim_index(first, name)] for name, other in query[3]}
    names = [dim[0] for dim in second.dims if dim[0] not in pairs]
    for name, pair in zip(names, region[count:]):
        pairs[name] = pair
    return [region[:count], tuple([pairs[dim[0]] for dim in second.dims])]


def window_asked(query, shapes, region):
    """Returns what is asked for a "window"."""
    return [cut(widened(region, facts_for_dims(shapes[0], query[2], (0, 0))), whole_region(shapes[0]))]


def regrid_asked(query, shapes, region):
    """Returns what is asked for a "regrid"."""
    pairs = []
    for pair, dim, told in zip(region, shapes[0].dims, facts_for_dims(shapes[0], query[2], ())):
        pairs.append((dim[1] + pair[0] * told[0], dim[1] + pair[1] * told[0] + told[0] - 1) if told else pair)
    return [cut(tuple(pairs), whole_region(shapes[0]))]


SAME_REGION = ("keep", "with", "only", "named", "box", "filled")
WHOLE_BOUNDS = ("reform", "ranked", "sorted")
# The functions that tell what the other operators with parts ask for.
ASKED = {"shift": shift_asked, "turned": turned_asked, "group": group_asked, "join": join_asked,
         "either": either_asked, "across": across_asked, "match": match_asked, "window": window_asked,
         "regrid": regrid_asked}
