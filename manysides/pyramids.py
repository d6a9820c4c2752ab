"""Pyramids: the totals of an array in boxes on levels (chapter 16)."""

from manysides.chunks import box_of_chunk, chunk_of, split
from manysides.regions import cut, holds_all, places_of, places_within, whole_region
from manysides.shapes import Shape


def totals_of(shape, cells):
    """Returns the totals of a dict of cells, of any number."""
    entries = [entry_of(kind, [cells[place][index] for place in cells])
               for index, (name, kind) in enumerate(shape.attrs)]
    return (len(cells), tuple(entries))


def entry_of(kind, values):
    """Returns the number of the values that are not missing, their sum, and the least and the greatest of them."""
    known = [value for value in values if value is not None]
    return (len(known), sum(known) if kind == "int" else None, min(known, default=None), max(known, default=None))


def together(first, second):
    """Returns the totals of two lots of cells that share none, from the totals of each."""
    return (first[0] + second[0], tuple([merged(entry, other) for entry, other in zip(first[1], second[1])]))


def merged(entry, other):
    """Returns the entry of an attribute for two lots of cells, from the entry of each."""
    count, total, least, greatest = entry
    if other[0] == 0:
        return entry
    if count == 0:
        return other
    both = None if total is None else total + other[1]
    return (count + other[0], both, min(least, other[2]), max(greatest, other[3]))


def level_shapes(shape):
    """Returns the list of the Shapes whose chunks are the boxes of each level."""
    # The steps of these Shapes may be longer than those of an array may be: they are only used to find boxes.
    found = [shape]
    while not has_one_chunk(found[-1]):
        dims = [(name, low, high, 2 * step) for name, low, high, step in found[-1].dims]
        found.append(Shape(tuple(dims), shape.attrs))
    return found


def has_one_chunk(shape):
    """Returns True if the first chunk of a shape has all its places, otherwise False."""
    return box_of_chunk(shape, tuple([0 for _ in shape.dims])) == whole_region(shape)


class Pyramid:
    """The pyramid of an Array."""

    def __init__(self, array):
        self._shapes = level_shapes(array.shape)
        self._chunks = split(array)
        self._boxes = {}
        indexes = sorted(self._chunks)
        for level in range(len(self._shapes)):
            for index in indexes:
                self._renew(level, index)
            indexes = sorted(set([tuple([number // 2 for number in index]) for index in indexes]))

    def levels(self):
        """Returns the number of levels."""
        return len(self._shapes)

    def box(self, level, index):
        """Returns the totals that are kept for a box, or None."""
        return self._boxes.get((level, index))

    def put(self, place, values):
        """Puts a cell, in place of the one at its place, if any. Returns the number of the boxes that were renewed."""
        chunk = chunk_of(self._shapes[0], place)
        if chunk not in self._chunks:
            self._chunks[chunk] = {}
        self._chunks[chunk][place] = values
        return self._renew_all(place)

    def take(self, place):
        """Takes the cell at a place, if there is one. Returns the number of the boxes that were renewed."""
        chunk = chunk_of(self._shapes[0], place)
        if place not in self._chunks.get(chunk, {}):
            return 0
        del self._chunks[chunk][place]
        if not self._chunks[chunk]:
            del self._chunks[chunk]
        return self._renew_all(place)

    def cover(self, region):
        """Returns the list of the boxes of the cover of a region, tuples (level, index)."""
        boxes, _ = self._looked_through(region)
        return boxes

    def loose(self, region):
        """Returns the ascending list of the places of the cells of a region that lie in no box of the cover."""
        _, cells = self._looked_through(region)
        return sorted(cells)

    def ask(self, region):
        """Returns the totals of a region."""
        boxes, cells = self._looked_through(region)
        totals = totals_of(self._shapes[0], cells)
        for box in boxes:
            totals = together(totals, self._boxes[box])
        return totals

    def cells(self):
        """Returns a new dict of all cells."""
        return {place: cells[place] for cells in self._chunks.values() for place in cells}

    def _renew_all(self, place):
        """Renews the totals of the boxes that have a place, one on each level. Returns their number."""
        for level, shape in enumerate(self._shapes):
            self._renew(level, chunk_of(shape, place))
        return len(self._shapes)

    def _renew(self, level, index):
        """Works out the totals of a box, from its cells or its parts. Without cells, it is not kept."""
        lots = [self._boxes[inner] for inner in self._parts(level, index)]
        if level == 0 and index in self._chunks:
            lots.append(totals_of(self._shapes[0], self._chunks[index]))
        if not lots:
            # A box that has lost its last cell was kept so far; one that never had a cell is not renewed.
            del self._boxes[(level, index)]
            return
        totals = lots[0]
        for other in lots[1:]:
            totals = together(totals, other)
        self._boxes[(level, index)] = totals

    def _parts(self, level, index):
        """Returns the list of the parts of a box that are kept, in the order of their indexes."""
        if level == 0:
            return []
        inner = places_of(tuple([(2 * number, 2 * number + 1) for number in index]))
        return [(level - 1, part) for part in inner if (level - 1, part) in self._boxes]

    def _looked_through(self, region):
        """Returns the list of the boxes of the cover of a region, and the dict of its cells that lie in no such box."""
        boxes = []
        cells = {}
        last = (len(self._shapes) - 1, tuple([0 for _ in region]))
        waiting = [last] if last in self._boxes else []
        while waiting:
            level, index = waiting.pop()
            box = box_of_chunk(self._shapes[level], index)
            if holds_all(region, box):
                boxes.append((level, index))
            elif cut(box, region) is not None:
                waiting.extend(list(reversed(self._parts(level, index))))
                if level == 0:
                    for place in places_within(self._chunks[index], region):
                        cells[place] = self._chunks[index][place]
        return boxes, cells
