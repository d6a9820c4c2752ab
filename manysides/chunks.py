"""Chunks of arrays, their boxes, and positions in boxes (chapter 06)."""

from manysides.arrays import Array, sorted_cells


def chunk_of(shape, place):
    """Returns the chunk of a place."""
    return tuple([(coordinate - low) // step for coordinate, (name, low, high, step) in zip(place, shape.dims)])


def box_of_chunk(shape, chunk):
    """Returns the box of a chunk: the pairs of the least and the greatest coordinate in each dimension."""
    box = []
    for index, (name, low, high, step) in zip(chunk, shape.dims):
        least = low + step * index
        box.append((least, min(least + step - 1, high)))
    return tuple(box)


def box_size(box):
    """Returns the number of the places of a box."""
    size = 1
    for least, greatest in box:
        size = size * (greatest - least + 1)
    return size


def position_of(box, place):
    """Returns the number of the places of a box that come before a place of it."""
    position = 0
    for coordinate, (least, greatest) in zip(place, box):
        position = position * (greatest - least + 1) + coordinate - least
    return position


def place_at(box, position):
    """Returns the place of a box with a position."""
    coordinates = []
    rest = position
    for least, greatest in reversed(box):
        extent = greatest - least + 1
        coordinates.append(least + rest % extent)
        rest = rest // extent
    return tuple(reversed(coordinates))


def split(array):
    """Returns a dict that maps each chunk which has a cell to the dict of its cells, in the order of places."""
    chunks = {}
    for place, values in sorted_cells(array):
        chunk = chunk_of(array.shape, place)
        if chunk not in chunks:
            chunks[chunk] = {}
        chunks[chunk][place] = values
    return chunks


def join_chunks(shape, chunks):
    """Returns the Array whose chunks have the cells that a dict tells."""
    return Array(shape, {place: cells[place] for cells in chunks.values() for place in cells})
