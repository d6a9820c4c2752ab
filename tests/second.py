"""What queries mean (chapter 11), told a second time and in another way: place by place of the answer."""

import functools
import itertools

from manysides.expressions import value_of
from manysides.queries import shape_of

EDGE = 10 ** 30


def answer(query, arrays):
    """Returns the dict of the cells of a query's answer."""
    shapes = {name: arrays[name].shape for name in arrays}
    parts = [part for part in query[1:3] if isinstance(part, tuple) and part and part[0] in WORDS]
    if query[0] not in ("join", "either", "across", "match"):
        parts = parts[:1]
    if query[0] == "scan":
        return dict(arrays[query[1]].cells)
    told = [(shape_of(part, shapes), answer(part, arrays)) for part in parts]
    rule = WORDS[query[0]]
    cells = {}
    for place in every_place(shape_of(query, shapes)):
        values = rule(query, told, place)
        if values is not None:
            cells[place] = values
    return cells


def every_place(shape):
    return itertools.product(*[range(dim[1], dim[2] + 1) for dim in shape.dims])


def named_entries(shape, place, values):
    """Returns the dict of the coordinates and values of a cell, by their names."""
    return dict(zip([row[0] for row in shape.dims + shape.attrs], place + values))


def aggregates(query, shape, lot):
    """Returns the aggregates over a dict of cells, or None if there are none."""
    if not lot:
        return None
    found = []
    for _, word, expression in query[3]:
        values = [None if expression is None else value_of(expression, shape, place, lot[place]) for place in sorted(lot)]
        known = list(filter(lambda value: value is not None, values))
        if word == "count":
            found.append(len(lot))
        elif word == "known":
            found.append(len(known))
        elif not known:
            found.append(None)
        elif word == "sum":
            total = functools.reduce(lambda left, right: left + right, known)
            found.append(total if abs(total) < EDGE else None)
        else:
            found.append({"least": min, "greatest": max, "first": lambda row: row[0], "all": all, "any": any}[word](known))
    return tuple(found)


def box(query, told, place):
    return told[0][1].get(place)


def shift(query, told, place):
    by = dict(query[2])
    return told[0][1].get(tuple([at - by.get(dim[0], 0) for at, dim in zip(place, told[0][0].dims)]))


def keep(query, told, place):
    (shape, cells), = told
    if place in cells and value_of(query[2], shape, place, cells[place]) is True:
        return cells[place]


def define(query, told, place):
    (shape, cells), = told
    if place not in cells:
        return None
    values = {attr[0]: value for attr, value in zip(shape.attrs, cells[place])}
    values.update({name: value_of(expression, shape, place, cells[place]) for name, expression in query[2]})
    return tuple(values.values())


def only(query, told, place):
    (shape, cells), = told
    if place in cells:
        values = named_entries(shape, place, cells[place])
        return tuple([values[name] for name in query[2]])


def join(query, told, place):
    (_, first), (_, second) = told
    return first[place] + second[place] if place in first and place in second else None


def either(query, told, place):
    (_, first), (_, second) = told
    return first.get(place, second.get(place))


def across(query, told, place):
    (shape, first), (_, second) = told
    left, right = place[:len(shape.dims)], place[len(shape.dims):]
    return first[left] + second[right] if left in first and right in second else None


def match(query, told, place):
    (shape, first), (other, second) = told
    names = {mate: name for name, mate in query[3]}
    rest = iter(place[len(shape.dims):])
    own = dict(zip([dim[0] for dim in shape.dims], place))
    right = tuple([own[names[dim[0]]] if dim[0] in names else next(rest) for dim in other.dims])
    left = place[:len(shape.dims)]
    return first[left] + second[right] if left in first and right in second else None


def lot_of(told, test):
    (shape, cells), = told
    return {place: cells[place] for place in cells if test(named_entries(shape, place, cells[place]))}


def group(query, told, place):
    wanted = list(zip(query[2], place)) if query[2] else []
    return aggregates(query, told[0][0], lot_of(told, lambda cell: all(cell[name] == at for name, at in wanted)))


def window(query, told, place):
    (shape, cells), = told
    if place not in cells:
        return None
    margins = {name: margin for name, *margin in query[2]}
    here = dict(zip([dim[0] for dim in shape.dims], place))
    near = lot_of(told, lambda cell: all(
        -margins.get(name, (0, 0))[0] <= cell[name] - at <= margins.get(name, (0, 0))[1] for name, at in here.items()))
    return aggregates(query, shape, near)


def regrid(query, told, place):
    shape = told[0][0]
    factors = dict(query[2])
    ranges = {}
    for (name, low, _, _), at in zip(shape.dims, place):
        factor = factors.get(name)
        ranges[name] = range(at, at + 1) if factor is None else range(low + at * factor, low + (at + 1) * factor)
    return aggregates(query, shape, lot_of(told, lambda cell: all(cell[name] in ranges[name] for name in ranges)))


def reform(query, told, place):
    names = [dim[0] for dim in query[2]]
    return aggregates(query, told[0][0], lot_of(told, lambda cell: tuple([cell[name] for name in names]) == place))


def turned(query, told, place):
    at = dict(zip(query[2], place))
    return told[0][1].get(tuple([at[dim[0]] for dim in told[0][0].dims]))


def filled(query, told, place):
    return told[0][1].get(place, query[2])


def ranked(query, told, place):
    cells = told[0][1]
    return cells[place] + (sum(1 for other in cells if other < place),) if place in cells else None


def in_order(query, told, place):
    (shape, cells), = told

    def compared(left, right):
        for expression, way in query[2]:
            a, b = [value_of(expression, shape, at, cells[at]) for at in (left, right)]
            if a != b:
                if a is None or b is None:
                    return 1 if a is None else -1
                return (-1 if a < b else 1) * (1 if way == "up" else -1)
        return -1 if left < right else 1

    places = sorted(cells, key=functools.cmp_to_key(compared))
    return places[place[0]] + cells[places[place[0]]] if place[0] < len(places) else None


WORDS = {"scan": None, "box": box, "shift": shift, "keep": keep, "with": define, "only": only, "named": box, "join": join,
         "either": either, "across": across, "match": match, "group": group, "window": window, "regrid": regrid,
         "reform": reform, "turned": turned, "filled": filled, "ranked": ranked, "sorted": in_order}
