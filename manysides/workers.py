"""Workers, which hold octets of chunks and work out parts of answers (chapter 25)."""

from manysides.arrays import Array
from manysides.coding import decode_chunk
from manysides.parts import part
from manysides.sources import MemorySource


def owner_of(key, count):
    """Returns the number of the owner of a key, a tuple (version, name, chunk), among some workers."""
    _, name, chunk = key
    return (sum(chunk) + len(name)) % count


def arrays_of(shapes, chunks):
    """Returns a dict of the Arrays that have some shapes and just the cells of some chunks.

    The shapes are tuples (name, Shape), the chunks tuples (name, chunk, octets).
    """
    arrays = {name: Array(shape, {}) for name, shape in shapes}
    for name, chunk, octets in chunks:
        array = arrays[name]
        for place, values in decode_chunk(array.shape, chunk, octets).items():
            array.cells[place] = values
    return arrays


def worked_out(query, region, shapes, chunks):
    """Returns the cells of a part of an answer, a tuple of pairs (place, values) in the order of places."""
    cells = part(query, region, MemorySource(arrays_of(shapes, chunks)))
    return tuple([(place, cells[place]) for place in sorted(cells)])


class Worker:
    """A worker that holds octets of chunks under keys; at first none."""

    def __init__(self):
        self._held = {}

    def receive(self, message):
        """Returns the reply to a message."""
        word, label, *facts = message
        if word == "work":
            return ("part", label, worked_out(*facts))
        key = facts[0]
        if word == "load":
            self._held[key] = facts[1]
            return ("loaded", label)
        return ("chunk", label, self._held[key]) if key in self._held else ("unknown", label)

    def fall(self):
        """Lets go of all that is held."""
        self._held = {}

    def held(self):
        """Returns the ascending list of the keys that are held."""
        return sorted(self._held)
