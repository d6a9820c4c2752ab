"""On which cells of which arrays a part of an answer depends (chapter 15)."""

from manysides.asks import asked_of, match_asked
from manysides.chunks import box_size
from manysides.queries import Layout
from manysides.regions import cells_within, cut, places_within, region_of, whole_region, widened
from manysides.shaping import facts_for_dims
from manysides.teller import answers_within


def origins(query, arrays, region):
    """Returns the list of the origins, tuples (number, region), of the part of a query's answer in a region."""
    layout = Layout(query, {name: arrays[name].shape for name in arrays})
    answers = answers_within(layout, arrays)
    found = []
    asked = {}
    waiting = [(0, region)]
    while waiting:
        ask = waiting.pop()
        # What was asked before has told all its origins, so it would tell no new one.
        if ask not in asked:
            asked[ask] = True
            if layout.rows[ask[0]][0] == "scan":
                found.append(ask)
            else:
                waiting.extend(list(reversed(further_asks(layout, answers, ask))))
    return found


def cells_in(cells, region):
    """Returns the dict of the cells of a dict that lie in a region, in the order of places."""
    return cells_within(cells, region)


def further_asks(layout, answers, ask):
    """Returns the list of the asks, tuples (number, region), to which the ask for a part of an operator's answer leads.

    The answers are the cells of all operators, by their numbers.
    """
    number, region = ask
    row = layout.rows[number]
    shapes = layout.part_shapes(number)
    if row[0] not in NEEDS:
        return [(layout.parts[number][0], asked_of(row, shapes, region)[0])]
    action = NEEDS[row[0]]
    told = action(row, shapes, answers[layout.parts[number][0]], region)
    return [(layout.parts[number][index], asked) for index, asked in told]


def join_needs(query, shapes, cells, region):
    """Returns the asks of a "join", tuples of the index of a part and a region; the cells are those of its first part.

    The functions below do the same for the other operators that ask for more or less, depending on these cells.
    """
    return [(0, region)] + [(1, region_of(place)) for place in places_within(cells, region)]


def either_needs(query, shapes, cells, region):
    """Returns the asks of an "either"."""
    first = cut(region, whole_region(shapes[0]))
    second = cut(region, whole_region(shapes[1]))
    asks = [] if first is None else [(0, first)]
    if second is not None and len(places_within(cells, second)) < box_size(second):
        asks.append((1, second))
    return asks


def across_needs(query, shapes, cells, region):
    """Returns the asks of an "across"."""
    count = len(shapes[0].dims)
    asks = [(0, region[:count])]
    if places_within(cells, region[:count]):
        asks.append((1, region[count:]))
    return asks


def match_needs(query, shapes, cells, region):
    """Returns the asks of a "match"."""
    count = len(shapes[0].dims)
    asks = [(0, region[:count])]
    for place in places_within(cells, region[:count]):
        asks.append((1, match_asked(query, shapes, region_of(place) + region[count:])[1]))
    return asks


def window_needs(query, shapes, cells, region):
    """Returns the asks of a "window"."""
    margins = facts_for_dims(shapes[0], query[2], (0, 0))
    bounds = whole_region(shapes[0])
    places = places_within(cells, region)
    return [(0, region)] + [(0, cut(widened(region_of(place), margins), bounds)) for place in places]


def ranked_needs(query, shapes, cells, region):
    """Returns the asks of a "ranked"."""
    asks = [(0, region)]
    if places_within(cells, region):
        asks.append((0, whole_region(shapes[0])))
    return asks


# The functions that tell the asks of those operators whose asks depend on the cells of their first part.
NEEDS = {"join": join_needs, "either": either_needs, "across": across_needs, "match": match_needs,
         "window": window_needs, "ranked": ranked_needs}
