"""Regions of shapes: a pair of a low and a high for each dimension (point 13.1)."""

from manysides.chunks import box_size


def whole_region(shape):
    """Returns the region of all bounds of a shape."""
    return tuple([(low, high) for name, low, high, step in shape.dims])


def cut(region, bounds):
    """Returns what of a region lies within bounds, or None if that is empty in a dimension."""
    pairs = []
    for (low, high), (least, greatest) in zip(region, bounds):
        if max(low, least) > min(high, greatest):
            return None
        pairs.append((max(low, least), min(high, greatest)))
    return tuple(pairs)


def is_within(place, region):
    """Returns True if a place lies in a region, otherwise False."""
    return all([low <= coordinate <= high for coordinate, (low, high) in zip(place, region)])


def holds_all(outer, inner):
    """Returns True if all places of the inner region lie in the outer one, otherwise False."""
    return cut(inner, outer) == inner


def widened(region, margins):
    """Returns a region with each low less and each high more, by a pair of numbers for each dimension."""
    return tuple([(low - less, high + more) for (low, high), (less, more) in zip(region, margins)])


def moved(region, steps):
    """Returns a region moved by a number for each dimension."""
    return tuple([(low + by, high + by) for (low, high), by in zip(region, steps)])


def region_of(place):
    """Returns the region that has one place alone."""
    return tuple([(coordinate, coordinate) for coordinate in place])


def places_of(region):
    """Returns the ascending list of the places of a region."""
    places = [()]
    for low, high in region:
        places = [place + (coordinate,) for place in places for coordinate in range(low, high + 1)]
    return places


def places_within(places, region):
    """Returns the ascending list of those keys of a dict that lie in a region."""
    # A region has few places, or it has many of which few are there: so the shorter way is taken.
    if box_size(region) < len(places):
        return [place for place in places_of(region) if place in places]
    return sorted([place for place in places if is_within(place, region)])


def cells_within(cells, region):
    """Returns the dict of the cells of a dict that lie in a region, in the order of places."""
    return {place: cells[place] for place in places_within(cells, region)}
