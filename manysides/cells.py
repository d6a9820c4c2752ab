"""The cells of the answers of those operators that need no aggregates (chapter 11).

Each function gets a query, the list of its parts as pairs of a Shape and a dict of cells, and the region in which
the answer is asked for. The cells of the parts are those that count for this region; what is returned may also have
cells outside of it.
"""

from manysides.expressions import value_of
from manysides.regions import places_of
from manysides.shapes import attr_index, dim_index
from manysides.shaping import facts_for_dims


def same_cells(query, parts, region):
    """Returns the cells of a "box" or a "named"."""
    _, cells = parts[0]
    return cells


def shift_cells(query, parts, region):
    """Returns the cells of a "shift"."""
    shape, cells = parts[0]
    steps = [told[0] for told in facts_for_dims(shape, query[2], (0,))]
    return {tuple([coordinate + by for coordinate, by in zip(place, steps)]): cells[place] for place in cells}


def keep_cells(query, parts, region):
    """Returns the cells of a "keep"."""
    shape, cells = parts[0]
    return {place: cells[place] for place in cells if value_of(query[2], shape, place, cells[place]) is True}


def with_cells(query, parts, region):
    """Returns the cells of a "with"."""
    shape, cells = parts[0]
    return {place: redefined(query[2], shape, place, cells[place]) for place in cells}


def redefined(definitions, shape, place, values):
    """Returns the values of a cell with those that definitions replace or add."""
    found = list(values)
    for name, expression in definitions:
        index = attr_index(shape, name)
        # All expressions are worked out from the cell as it was.
        value = value_of(expression, shape, place, values)
        if index is None:
            found.append(value)
        else:
            found[index] = value
    return tuple(found)


def only_cells(query, parts, region):
    """Returns the cells of an "only"."""
    shape, cells = parts[0]
    indexes = [attr_index(shape, name) for name in query[2]]
    return {place: picked(cells[place], indexes) for place in cells}


def picked(entries, indexes):
    """Returns the tuple of those entries of a tuple that have some indexes."""
    return tuple([entries[index] for index in indexes])


def join_cells(query, parts, region):
    """Returns the cells of a "join"."""
    (_, first), (_, second) = parts
    return {place: first[place] + second[place] for place in first if place in second}


def either_cells(query, parts, region):
    """Returns the cells of an "either"."""
    (_, first), (_, second) = parts
    cells = {place: second[place] for place in second}
    for place in first:
        cells[place] = first[place]
    return cells


def across_cells(query, parts, region):
    """Returns the cells of an "across"."""
    (_, first), (_, second) = parts
    return {place + other: first[place] + second[other] for place in first for other in second}


def match_cells(query, parts, region):
    """Returns the cells of a "match"."""
    (shape, first), (other_shape, second) = parts
    own = [dim_index(shape, name) for name, other in query[3]]
    others = [dim_index(other_shape, other) for name, other in query[3]]
    rest = [index for index in range(len(other_shape.dims)) if index not in others]
    rows = {}
    for place in second:
        rows.setdefault(picked(place, others), []).append((picked(place, rest), second[place]))
    cells = {}
    for place in first:
        for more, values in rows.get(picked(place, own), []):
            cells[place + more] = first[place] + values
    return cells


def turned_cells(query, parts, region):
    """Returns the cells of a "turned"."""
    shape, cells = parts[0]
    indexes = [dim_index(shape, name) for name in query[2]]
    return {picked(place, indexes): cells[place] for place in cells}


def filled_cells(query, parts, region):
    """Returns the cells of a "filled"."""
    _, cells = parts[0]
    return {place: cells.get(place, query[2]) for place in places_of(region)}


def ranked_cells(query, parts, region):
    """Returns the cells of a "ranked"."""
    _, cells = parts[0]
    return {place: cells[place] + (rank,) for rank, place in enumerate(sorted(cells))}


def sorted_cells_of(query, parts, region):
    """Returns the cells of a "sorted"."""
    shape, cells = parts[0]
    keys, _, limit = query[2:]
    places = sorted(cells)
    # Sorting leaves cells with equal keys as they stood: so the keys are taken from the last one to the first one.
    for expression, way in reversed(keys):
        places = in_order([(value_of(expression, shape, place, cells[place]), place) for place in places], way)
    return {(index,): place + cells[place] for index, place in enumerate(places[:limit])}


def in_order(rows, way):
    """Returns the list of the places of pairs (value, place), in the order of the values; missing ones are last."""
    known = [row for row in rows if row[0] is not None]
    missing = [place for value, place in rows if value is None]
    if way == "up":
        known = sorted(known, key=lambda row: row[0])
    else:
        known = sorted(known, key=lambda row: row[0], reverse=True)
    return [place for value, place in known] + missing
