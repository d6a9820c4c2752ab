"""What a change of an array reaches in the answer of a query (chapter 14)."""

from manysides.arrays import Array
from manysides.parts import part
from manysides.queries import Layout
from manysides.regions import cut, is_within, moved, whole_region, widened
from manysides.shapes import dim_index
from manysides.shaping import facts_for_dims
from manysides.teller import regridded


def reach(query, shapes, name, region):
    """Returns the region of a query's answer that a change of an array in a region of it reaches, or None."""
    layout = Layout(query, shapes)
    found = [None] * len(layout.rows)
    for number in layout.order:
        row = layout.rows[number]
        reached = [found[inner] for inner in layout.parts[number]]
        if row[0] == "scan":
            found[number] = region if row[1] == name else None
        elif reached != [None] * len(reached):
            found[number] = reach_over(row, layout.part_shapes(number), layout.own_shapes[number], reached)
    return found[0]


def renewed(query, answer, source, name, region):
    """Returns the answer, an Array, behind a change, from that before it and a source of the arrays behind it."""
    told = reach(query, source.shapes(), name, region)
    if told is None:
        return Array(answer.shape, answer.cells)
    cells = {place: answer.cells[place] for place in answer.cells if not is_within(place, told)}
    fresh = part(query, told, source)
    for place in fresh:
        cells[place] = fresh[place]
    return Array(answer.shape, cells)


def reach_over(query, shapes, shape, reached):
    """Returns the reach in an operator's answer, or None, if one of its parts has a reach.

    The shapes are those of the parts and that of the answer; the reaches are those of the parts.
    """
    if query[0] in SAME_REACH:
        return reached[0]
    if query[0] in WHOLE_REACH:
        return whole_region(shape)
    action = REACHES[query[0]]
    return action(query, shapes, shape, reached)


def holding_both(first, second):
    """Returns the smallest region that contains two regions; one that is None does not count."""
    if first is None:
        return second
    if second is None:
        return first
    return tuple([(min(low, least), max(high, greatest)) for (low, high), (least, greatest) in zip(first, second)])


def cut_if_any(region, shape):
    """Returns a region cut to the bounds of a shape, or None if there is none or nothing is left."""
    return None if region is None else cut(region, whole_region(shape))


def box_reach(query, shapes, shape, reached):
    """Returns the reach of a "box"."""
    return cut_if_any(reached[0], shape)


def shift_reach(query, shapes, shape, reached):
    """Returns the reach of a "shift"."""
    return moved(reached[0], [told[0] for told in facts_for_dims(shapes[0], query[2], (0,))])


def turned_reach(query, shapes, shape, reached):
    """Returns the reach of a "turned"."""
    return pairs_of_dims(query[2], shapes[0], reached[0])


def group_reach(query, shapes, shape, reached):
    """Returns the reach of a "group"."""
    return pairs_of_dims(query[2], shapes[0], reached[0]) if query[2] else ((0, 0),)


def pairs_of_dims(names, shape, region):
    """Returns the tuple of the pairs that a region of a shape has for some dimensions."""
    return tuple([region[dim_index(shape, name)] for name in names])


def join_reach(query, shapes, shape, reached):
    """Returns the reach of a "join"."""
    return holding_both(cut_if_any(reached[0], shape), cut_if_any(reached[1], shape))


def either_reach(query, shapes, shape, reached):
    """Returns the reach of an "either"."""
    return holding_both(reached[0], reached[1])


def across_reach(query, shapes, shape, reached):
    """Returns the reach of an "across"."""
    first, second = reached
    if first is None:
        return whole_region(shapes[0]) + second
    if second is None:
        return first + whole_region(shapes[1])
    return whole_region(shape)


def match_reach(query, shapes, shape, reached):
    """Returns the reach of a "match"."""
    first, second = reached
    others = {name: other for name, other in query[3]}
    rest = [dim[0] for dim in shapes[1].dims if dim[0] not in list(others.values())]
    if first is not None:
        first = first + pairs_of_dims(rest, shapes[1], whole_region(shapes[1]))
    if second is not None:
        pairs = [second[dim_index(shapes[1], others[name])] if name in others else (low, high)
                 for name, low, high, step in shapes[0].dims]
        second = tuple(pairs) + pairs_of_dims(rest, shapes[1], second)
    return holding_both(cut_if_any(first, shape), cut_if_any(second, shape))


def window_reach(query, shapes, shape, reached):
    """Returns the reach of a "window"."""
    # A cell counts in the windows of the cells that it lies behind of, and before of: so the two are exchanged.
    margins = [(behind, before) for before, behind in facts_for_dims(shape, query[2], (0, 0))]
    return cut_if_any(widened(reached[0], margins), shape)


def regrid_reach(query, shapes, shape, reached):
    """Returns the reach of a "regrid"."""
    factors = facts_for_dims(shapes[0], query[2], ())
    first = regridded([low for low, high in reached[0]], shapes[0], factors)
    last = regridded([high for low, high in reached[0]], shapes[0], factors)
    return tuple(zip(first, last))


SAME_REACH = ("keep", "with", "only", "named", "filled")
WHOLE_REACH = ("ranked", "reform", "sorted")
# The functions that tell the reach of the other operators with parts.
REACHES = {"box": box_reach, "shift": shift_reach, "turned": turned_reach, "group": group_reach, "join": join_reach,
           "either": either_reach, "across": across_reach, "match": match_reach, "window": window_reach,
           "regrid": regrid_reach}
