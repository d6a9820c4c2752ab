"""The shape of an operator's answer, from the shapes of its parts (points 10.3 to 10.5)."""

from manysides.chunks import box_size
from manysides.errors import InvalidQuery, InvalidShape
from manysides.expressions import kind_of
from manysides.kinds import is_value
from manysides.regions import whole_region
from manysides.shapes import FURTHEST, Shape, attr_index, check_shape, dim_index

MOST_PLACES = 100000
GREATEST_LIMIT = 100000
GREATEST_SPAN = 1000000
GREATEST_FACTOR = 1000000
ALL_BOUNDS = (-FURTHEST, FURTHEST)
ONLY_DIM = ("all", 0, 0, 1)


def shape_over(query, parts, known):
    """Returns the Shape of an operator over parts with some shapes, or None if it breaks a condition."""
    if query[0] == "scan":
        return known.get(query[1])
    action = SHAPES[query[0]]
    shape = action(query, *parts)
    return shape if shape is not None and is_shape(shape) else None


def is_shape(shape):
    """Returns True if a Shape is right, otherwise False."""
    try:
        check_shape(shape)
    except InvalidShape:
        return False
    return True


def kind_in(expression, shape):
    """Returns the kind of an expression, or None if it has none."""
    try:
        return kind_of(expression, shape)
    except InvalidQuery:
        return None


def first_of(rows):
    """Returns the list of the first entries of tuples."""
    return [row[0] for row in rows]


def are_told_once(names, known):
    """Returns True if names are among those that are known, and none is told twice, otherwise False."""
    return len(set(names)) == len(names) and all([name in known for name in names])


def facts_for_dims(shape, facts, otherwise):
    """Returns a list with what the tuple that begins with its name tells of each dimension, or something else."""
    told = {fact[0]: fact[1:] for fact in facts}
    return [told.get(dim[0], otherwise) for dim in shape.dims]


def are_facts_of_dims(shape, facts):
    """Returns True if tuples begin with names of dimensions, each told once, otherwise False."""
    return are_told_once(first_of(facts), first_of(shape.dims))


def box_shape(query, shape):
    """Returns the Shape of a "box", or None."""
    if not are_facts_of_dims(shape, query[2]):
        return None
    told = facts_for_dims(shape, query[2], ALL_BOUNDS)
    dims = [(name, max(low, least), min(high, greatest), step)
            for (name, low, high, step), (least, greatest) in zip(shape.dims, told)]
    return Shape(tuple(dims), shape.attrs)


def shift_shape(query, shape):
    """Returns the Shape of a "shift", or None."""
    if not are_facts_of_dims(shape, query[2]):
        return None
    steps = [told[0] for told in facts_for_dims(shape, query[2], (0,))]
    dims = [(name, low + by, high + by, step) for (name, low, high, step), by in zip(shape.dims, steps)]
    return Shape(tuple(dims), shape.attrs)


def keep_shape(query, shape):
    """Returns the Shape of a "keep", or None."""
    return shape if kind_in(query[2], shape) == "flag" else None


def with_shape(query, shape):
    """Returns the Shape of a "with", or None. An attribute whose expression has no kind makes it no shape."""
    names = first_of(query[2])
    if not names or len(set(names)) != len(names):
        return None
    attrs = list(shape.attrs)
    for name, expression in query[2]:
        index = attr_index(shape, name)
        attr = (name, kind_in(expression, shape))
        if index is None:
            attrs.append(attr)
        else:
            attrs[index] = attr
    return Shape(shape.dims, tuple(attrs))


def only_shape(query, shape):
    """Returns the Shape of an "only", or None."""
    if not are_told_once(query[2], first_of(shape.attrs)):
        return None
    return Shape(shape.dims, tuple([shape.attrs[attr_index(shape, name)] for name in query[2]]))


def named_shape(query, shape):
    """Returns the Shape of a "named", or None."""
    if not are_told_once(first_of(query[2]), first_of(shape.dims + shape.attrs)):
        return None
    names = {old: new for old, new in query[2]}
    dims = [(names.get(name, name), low, high, step) for name, low, high, step in shape.dims]
    attrs = [(names.get(name, name), kind) for name, kind in shape.attrs]
    return Shape(tuple(dims), tuple(attrs))


def meeting(dim, other):
    """Returns a dimension cut to the bounds of another one."""
    name, low, high, step = dim
    return (name, max(low, other[1]), min(high, other[2]), step)


def spanning(dim, other):
    """Returns a dimension with bounds that hold those of another one, too."""
    name, low, high, step = dim
    return (name, min(low, other[1]), max(high, other[2]), step)


def join_shape(query, first, second):
    """Returns the Shape of a "join", or None."""
    if first_of(first.dims) != first_of(second.dims):
        return None
    dims = [meeting(dim, other) for dim, other in zip(first.dims, second.dims)]
    return Shape(tuple(dims), first.attrs + second.attrs)


def either_shape(query, first, second):
    """Returns the Shape of an "either", or None."""
    if first_of(first.dims) != first_of(second.dims) or first.attrs != second.attrs:
        return None
    dims = [spanning(dim, other) for dim, other in zip(first.dims, second.dims)]
    return Shape(tuple(dims), first.attrs)


def across_shape(query, first, second):
    """Returns the Shape of an "across"."""
    return Shape(first.dims + second.dims, first.attrs + second.attrs)


def match_shape(query, first, second):
    """Returns the Shape of a "match", or None."""
    own = [name for name, other in query[3]]
    others = [other for name, other in query[3]]
    if not own or not are_told_once(own, first_of(first.dims)) or not are_told_once(others, first_of(second.dims)):
        return None
    met = {name: second.dims[dim_index(second, other)] for name, other in query[3]}
    dims = [meeting(dim, met.get(dim[0], dim)) for dim in first.dims]
    rest = [dim for dim in second.dims if dim[0] not in others]
    return Shape(tuple(dims + rest), first.attrs + second.attrs)


def aggregate_attrs(aggregates, shape):
    """Returns the attributes that aggregates become; the kind of one that is wrong is None, which is no kind."""
    return tuple([(name, aggregate_kind(word, expression, shape)) for name, word, expression in aggregates])


def aggregate_kind(word, expression, shape):
    """Returns the kind of an aggregate, or None if it breaks a condition."""
    if expression is None:
        return "int" if word == "count" else None
    kind = kind_in(expression, shape)
    if kind is None:
        return None
    if word in ("count", "known"):
        return "int"
    if word == "sum":
        return kind if kind == "int" else None
    if word in ("all", "any"):
        return kind if kind == "flag" else None
    return kind


def group_shape(query, shape):
    """Returns the Shape of a "group", or None."""
    if not are_told_once(query[2], first_of(shape.dims)):
        return None
    dims = [shape.dims[dim_index(shape, name)] for name in query[2]]
    return Shape(tuple(dims) if dims else (ONLY_DIM,), aggregate_attrs(query[3], shape))


def window_shape(query, shape):
    """Returns the Shape of a "window", or None."""
    numbers = [number for span in query[2] for number in span[1:]]
    if not are_facts_of_dims(shape, query[2]) or not all([0 <= number <= GREATEST_SPAN for number in numbers]):
        return None
    return Shape(shape.dims, aggregate_attrs(query[3], shape))


def regrid_shape(query, shape):
    """Returns the Shape of a "regrid", or None."""
    factors = [factor for name, factor in query[2]]
    if not are_facts_of_dims(shape, query[2]) or not all([1 <= factor <= GREATEST_FACTOR for factor in factors]):
        return None
    dims = []
    for dim, told in zip(shape.dims, facts_for_dims(shape, query[2], ())):
        name, low, high, step = dim
        dims.append((name, 0, (high - low) // told[0], step) if told else dim)
    return Shape(tuple(dims), aggregate_attrs(query[3], shape))


def reform_shape(query, shape):
    """Returns the Shape of a "reform", or None."""
    numbers = first_of(shape.dims) + [name for name, kind in shape.attrs if kind == "int"]
    if not are_told_once(first_of(query[2]), numbers):
        return None
    return Shape(query[2], aggregate_attrs(query[3], shape))


def turned_shape(query, shape):
    """Returns the Shape of a "turned", or None."""
    if sorted(query[2]) != sorted(first_of(shape.dims)):
        return None
    return Shape(tuple([shape.dims[dim_index(shape, name)] for name in query[2]]), shape.attrs)


def filled_shape(query, shape):
    """Returns the Shape of a "filled", or None."""
    if len(query[2]) != len(shape.attrs) or box_size(whole_region(shape)) > MOST_PLACES:
        return None
    fits = [value is None or is_value(kind, value) for value, (name, kind) in zip(query[2], shape.attrs)]
    return shape if all(fits) else None


def ranked_shape(query, shape):
    """Returns the Shape of a "ranked"; with a name that is not new it is none."""
    return Shape(shape.dims, shape.attrs + ((query[2], "int"),))


def sorted_shape(query, shape):
    """Returns the Shape of a "sorted", or None."""
    keys, name, limit = query[2:]
    if not keys or limit > GREATEST_LIMIT or None in [kind_in(expression, shape) for expression, way in keys]:
        return None
    coordinates = [(dim[0], "int") for dim in shape.dims]
    return Shape(((name, 0, limit - 1, limit),), tuple(coordinates) + shape.attrs)


# The functions that tell the shape of each operator with parts. What they return is still looked through: bounds
# that leave no place, names that clash and too many dimensions or attributes make it no shape.
SHAPES = {"box": box_shape, "shift": shift_shape, "keep": keep_shape, "with": with_shape, "only": only_shape,
          "named": named_shape, "join": join_shape, "either": either_shape, "across": across_shape,
          "match": match_shape, "group": group_shape, "window": window_shape, "regrid": regrid_shape,
          "reform": reform_shape, "turned": turned_shape, "filled": filled_shape, "ranked": ranked_shape,
          "sorted": sorted_shape}
