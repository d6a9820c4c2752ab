"""What queries mean: aggregates, and the answers of queries (chapter 11)."""

from manysides.arrays import Array
from manysides.cells import across_cells, either_cells, filled_cells, join_cells, keep_cells, match_cells, only_cells
from manysides.cells import picked, ranked_cells, same_cells, shift_cells, sorted_cells_of, turned_cells, with_cells
from manysides.expressions import value_of
from manysides.kinds import is_value
from manysides.queries import Layout
from manysides.regions import cells_within, is_within, region_of, whole_region, widened
from manysides.shapes import attr_index, dim_index
from manysides.shaping import facts_for_dims


def tell(query, arrays):
    """Returns the answer of a query, an Array. Raises InvalidQuery."""
    layout = Layout(query, {name: arrays[name].shape for name in arrays})
    return Array(layout.own_shapes[0], answers_within(layout, arrays)[0])


def answers_within(layout, arrays):
    """Returns the list of the cells of the answers of all operators, by their numbers."""
    found = [{} for _ in layout.rows]
    for number in layout.order:
        if layout.rows[number][0] == "scan":
            found[number] = arrays[layout.rows[number][1]].cells
        else:
            parts = [(layout.own_shapes[inner], found[inner]) for inner in layout.parts[number]]
            found[number] = cells_over(layout.rows[number], parts, whole_region(layout.own_shapes[number]))
    return found


def cells_over(query, parts, region):
    """Returns the cells of an operator's answer in a region, from those cells of its parts that count for it.

    The parts are pairs of a Shape and a dict of cells.
    """
    action = CELLS[query[0]]
    return cells_within(action(query, parts, region), region)


def aggregate(word, values):
    """Returns an aggregate over the values of its expression, in the order of places."""
    if word == "count":
        return len(values)
    known = [value for value in values if value is not None]
    if word == "known":
        return len(known)
    return aggregate_of_known(word, known) if known else None


def aggregate_of_known(word, values):
    """Returns an aggregate over values that are not missing, at least one."""
    if word == "sum":
        total = sum(values)
        return total if is_value("int", total) else None
    if word == "least":
        return min(values)
    if word == "greatest":
        return max(values)
    if word == "first":
        return values[0]
    return False not in values if word == "all" else True in values


def rows_of(aggregates, shape, cells):
    """Returns a dict with the values of the expressions of aggregates in each cell, in the order of places."""
    expressions = [expression for name, word, expression in aggregates]
    return {place: row_of(expressions, shape, place, cells[place]) for place in sorted(cells)}


def row_of(expressions, shape, place, values):
    """Returns the tuple of the values of expressions in a cell; None where there is no expression."""
    return tuple([None if expression is None else value_of(expression, shape, place, values)
                  for expression in expressions])


def aggregated(aggregates, rows):
    """Returns the tuple of aggregates over the values of their expressions in some cells, in the order of places."""
    return tuple([aggregate(word, [row[index] for row in rows])
                  for index, (name, word, expression) in enumerate(aggregates)])


def gathered(aggregates, shape, cells, targets):
    """Returns a cell at each target, with the aggregates over the cells whose places have this target in a dict."""
    lots = {}
    for place, row in rows_of(aggregates, shape, cells).items():
        if targets[place] is not None:
            lots.setdefault(targets[place], []).append(row)
    return {target: aggregated(aggregates, rows) for target, rows in lots.items()}


def group_cells(query, parts, region):
    """Returns the cells of a "group"."""
    shape, cells = parts[0]
    indexes = [dim_index(shape, name) for name in query[2]]
    targets = {place: picked(place, indexes) if indexes else (0,) for place in cells}
    return gathered(query[3], shape, cells, targets)


def regrid_cells(query, parts, region):
    """Returns the cells of a "regrid"."""
    shape, cells = parts[0]
    factors = facts_for_dims(shape, query[2], ())
    targets = {place: regridded(place, shape, factors) for place in cells}
    return gathered(query[3], shape, cells, targets)


def regridded(place, shape, factors):
    """Returns where a place comes to lie; the factors are a tuple for each dimension, an empty one if none is told."""
    return tuple([(coordinate - dim[1]) // factor[0] if factor else coordinate
                  for coordinate, dim, factor in zip(place, shape.dims, factors)])


def reform_cells(query, parts, region):
    """Returns the cells of a "reform"."""
    shape, cells = parts[0]
    bounds = tuple([(low, high) for name, low, high, step in query[2]])
    targets = {place: reformed(query[2], shape, place, cells[place], bounds) for place in cells}
    return gathered(query[3], shape, cells, targets)


def reformed(dims, shape, place, values, bounds):
    """Returns where a cell comes to lie, or None if it comes to lie nowhere."""
    target = []
    for name, _, _, _ in dims:
        index = attr_index(shape, name)
        target.append(place[dim_index(shape, name)] if index is None else values[index])
    return tuple(target) if None not in target and is_within(target, bounds) else None


def window_cells(query, parts, region):
    """Returns the cells of a "window"."""
    shape, cells = parts[0]
    margins = facts_for_dims(shape, query[2], (0, 0))
    tree = tree_of(rows_of(query[3], shape, cells))
    return {place: aggregated(query[3], rows_in(tree, widened(region_of(place), margins)))
            for place in cells if is_within(place, region)}


def tree_of(rows):
    """Returns the rows of a dict of places as dicts within each other, one for each coordinate.

    So the rows in a region are found without looking at all others.
    """
    tree = {}
    for place, row in rows.items():
        node = tree
        for coordinate in place[:-1]:
            node = node.setdefault(coordinate, {})
        node[place[-1]] = row
    return tree


def rows_in(tree, region):
    """Returns the list of the rows in a region, in the order of places."""
    nodes = [tree]
    for low, high in region:
        nodes = [inner for node in nodes for inner in nodes_between(node, low, high)]
    return nodes


def nodes_between(node, low, high):
    """Returns the list of what lies in a dict at the coordinates from a low to a high one."""
    if high - low < len(node):
        return [node[coordinate] for coordinate in range(low, high + 1) if coordinate in node]
    return [node[coordinate] for coordinate in node if low <= coordinate <= high]


# The functions that work out the cells of each operator with parts.
CELLS = {"box": same_cells, "shift": shift_cells, "keep": keep_cells, "with": with_cells, "only": only_cells,
         "named": same_cells, "join": join_cells, "either": either_cells, "across": across_cells,
         "match": match_cells, "group": group_cells, "window": window_cells, "regrid": regrid_cells,
         "reform": reform_cells, "turned": turned_cells, "filled": filled_cells, "ranked": ranked_cells,
         "sorted": sorted_cells_of}
