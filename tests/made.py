"""Many small arrays, expressions and queries, always the same ones."""

import itertools
import random

from manysides.arrays import Array
from manysides.errors import InvalidQuery
from manysides.kinds import KINDS
from manysides.queries import operators, shape_of
from manysides.shapes import Shape

SHAPES = {
    "a": Shape((("x", 0, 7, 3),), (("v", "int"), ("f", "flag"))),
    "b": Shape((("x", -2, 5, 2),), (("w", "int"),)),
    "c": Shape((("x", 1, 4, 2), ("y", -1, 2, 2)), (("v", "int"), ("t", "text"))),
    "d": Shape((("y", 0, 3, 1), ("z", 5, 7, 2)), (("u", "int"),)),
    "e": Shape((("x", 2, 9, 3),), (("v", "int"), ("f", "flag"))),
    "g": Shape((("x", 1, 4, 4), ("y", -2, 1, 3)), (("s", "int"),)),
    "h": Shape((("o", 0, 2, 2),), (("m", "flag"),)),
}
VALUES = {"int": (-2, -1, 0, 1, 2, 3, 5, None), "flag": (True, False, None), "text": ("", "a", "b", "ab", None)}
MOST_PLACES = 600
INT_WORDS = ("add", "sub", "mul", "div", "mod")
COMPARISONS = ("eq", "ne", "lt", "le", "gt", "ge")
UNARY = ("box", "box", "box", "shift", "keep", "keep", "keep", "with", "with", "only", "only", "named", "group",
         "window", "regrid", "reform", "turned", "filled", "ranked", "sorted")
BINARY = ("join", "join", "either", "either", "across", "across", "match", "match")


def places_in(shape):
    return list(itertools.product(*[range(dim[1], dim[2] + 1) for dim in shape.dims]))


def values_for(rolls, shape):
    return tuple([rolls.choice(VALUES[kind]) for _, kind in shape.attrs])


def some_array(rolls, shape):
    """Returns an Array with cells at some places: at none, few, half of them, most or all."""
    places = places_in(shape)
    share = rolls.choice((0, 0.2, 0.5, 0.5, 0.8, 1))
    return Array(shape, {place: values_for(rolls, shape) for place in places if rolls.random() < share})


def some_arrays(rolls):
    return {name: some_array(rolls, SHAPES[name]) for name in SHAPES}


def some_region(rolls, shape):
    pairs = []
    for _, low, high, _ in shape.dims:
        first, last = sorted([rolls.randint(low, high), rolls.randint(low, high)])
        pairs.append((low, high) if rolls.random() < 0.3 else (first, last))
    return tuple(pairs)


def some_expression(rolls, shape, kind, depth=2):
    """Returns an expression of a kind over a shape."""
    leaves = [("attr", name) for name, own in shape.attrs if own == kind] * 2
    leaves += [("dim", dim[0]) for dim in shape.dims] if kind == "int" else []
    if depth == 0 or rolls.random() < 0.3:
        return rolls.choice(leaves + [("value", kind, rolls.choice(VALUES[kind]))])

    def inner(other):
        return some_expression(rolls, shape, other, depth - 1)

    if rolls.random() < 0.2:
        return rolls.choice([("if", inner("flag"), inner(kind), inner(kind)), ("or else", inner(kind), inner(kind))])
    if kind == "int":
        return rolls.choice([(rolls.choice(INT_WORDS), inner("int"), inner("int")), ("neg", inner("int")),
                             ("abs", inner("int")), ("length", inner("text"))])
    if kind == "text":
        return ("joined", inner("text"), inner("text"))
    other = rolls.choice(KINDS)
    return rolls.choice([(rolls.choice(COMPARISONS), inner(other), inner(other)), ("is missing", inner(other)),
                         ("not", inner("flag")), ("and", inner("flag"), inner("flag")),
                         ("or", inner("flag"), inner("flag"))])


def some_names(rolls, names, least=0):
    return tuple(rolls.sample(names, rolls.randint(least, len(names))))


def some_aggregates(rolls, shape):
    found = []
    for name in rolls.sample(("n", "v", "q"), rolls.randint(1, 2)):
        word = rolls.choice(("count", "known", "sum", "least", "greatest", "first", "all", "any"))
        kind = {"sum": "int", "all": "flag", "any": "flag"}.get(word) or rolls.choice(KINDS)
        bare = word == "count" and rolls.random() < 0.5
        found.append((name, word, None if bare else some_expression(rolls, shape, kind)))
    return tuple(found)


def some_facts(rolls, word, shape):
    """Returns the tuple of the facts of an operator over a part with a shape; they may break a condition."""
    dims, attrs = [dim[0] for dim in shape.dims], [name for name, _ in shape.attrs]
    told = some_names(rolls, dims)
    bounds = {dim[0]: dim[1:3] for dim in shape.dims}
    if word == "box":
        return (tuple([(name, bounds[name][0] + rolls.randint(-2, 3), bounds[name][1] + rolls.randint(-3, 2))
                       for name in told]),)
    if word == "shift":
        return (tuple([(name, rolls.randint(-3, 3)) for name in told]),)
    if word == "keep":
        return (("value", "flag", True) if rolls.random() < 0.1 else some_expression(rolls, shape, "flag"),)
    if word == "with":
        names = rolls.sample(attrs + ["p", "q", "n"], rolls.randint(1, 2))
        return (tuple([(name, some_expression(rolls, shape, rolls.choice(KINDS))) for name in names]),)
    if word == "only":
        return (some_names(rolls, attrs, 1),)
    if word == "named":
        return (tuple([(name, rolls.choice(dims + attrs + ["k", "l"])) for name in some_names(rolls, dims + attrs)]),)
    if word == "window":
        return (tuple([(name, rolls.randint(0, 2), rolls.randint(0, 2)) for name in told]), some_aggregates(rolls, shape))
    if word == "regrid":
        return (tuple([(name, rolls.randint(1, 4)) for name in told]), some_aggregates(rolls, shape))
    return further_facts(rolls, word, shape, dims, attrs)


def further_facts(rolls, word, shape, dims, attrs):
    if word == "group":
        return (some_names(rolls, dims), some_aggregates(rolls, shape))
    if word == "reform":
        numbers = dims + [name for name, kind in shape.attrs if kind == "int"]
        told = rolls.sample(numbers, rolls.randint(1, min(2, len(numbers))))
        return (tuple([(name, -1, rolls.randint(1, 6), rolls.randint(1, 4)) for name in told]), some_aggregates(rolls, shape))
    if word == "turned":
        return (tuple(rolls.sample(dims, len(dims))),)
    if word == "filled":
        return (values_for(rolls, shape),)
    if word == "ranked":
        return (rolls.choice(("r", "q")),)
    keys = [(some_expression(rolls, shape, rolls.choice(KINDS), 1), rolls.choice(("up", "down"))) for _ in range(2)]
    return (tuple(keys[:rolls.randint(1, 2)]), rolls.choice(("i", "x")), rolls.choice((1, 3, 9)))


def some_pair(rolls, depth):
    """Returns a query with two parts; it may break a condition."""
    word = rolls.choice(BINARY)
    first, second = some_query(rolls, depth - 1), some_query(rolls, depth - 1)
    shape = shape_of(first, SHAPES)
    if word == "join" and rolls.random() < 0.7:
        name = rolls.choice(shape.attrs)[0]
        second = ("named", ("only", first, (name,)), ((name, rolls.choice(("j", "k"))),))
    if word == "either" and rolls.random() < 0.7:
        second = rolls.choice((("keep", first, some_expression(rolls, shape, "flag")),
                               ("shift", first, ((shape.dims[0][0], rolls.randint(-3, 3)),))))
    if word != "match":
        return (word, first, second)
    names = [[dim[0] for dim in shape_of(part, SHAPES).dims] for part in (first, second)]
    many = rolls.randint(1, min(len(names[0]), len(names[1])))
    return (word, first, second, tuple(zip(rolls.sample(names[0], many), rolls.sample(names[1], many))))


def some_query(rolls, depth=3):
    """Returns a query that has a shape with few places."""
    while True:
        if depth == 0 or rolls.random() < 0.1:
            return ("scan", rolls.choice(sorted(SHAPES)))
        if rolls.random() < 0.3:
            query = some_pair(rolls, depth)
        else:
            word, part = rolls.choice(UNARY), some_query(rolls, depth - 1)
            query = (word, part, *some_facts(rolls, word, shape_of(part, SHAPES)))
        try:
            shape = shape_of(query, SHAPES)
        except InvalidQuery:
            continue
        if len(places_in(shape)) <= MOST_PLACES:
            return query


def queries(count, seed, depth=3):
    """Returns a list of queries."""
    rolls = random.Random(seed)
    return [some_query(rolls, depth) for _ in range(count)]


def words_of(made):
    """Returns the set of the words of the operators of queries."""
    return {part[0] for query in made for part in operators(query)}


def changed(rolls, array, region):
    """Returns an Array in which some cells in a region are put in, taken away or replaced."""
    cells = dict(array.cells)
    for place in places_in(Shape(tuple([("d", low, high, 1) for low, high in region]), ())):
        deed = rolls.choice(("put", "take", "leave"))
        if deed == "put":
            cells[place] = values_for(rolls, array.shape)
        elif deed == "take":
            cells.pop(place, None)
    return Array(array.shape, cells)
