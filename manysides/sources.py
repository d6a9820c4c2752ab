"""Sources, which tell arrays in chunks (point 13.2)."""

from manysides.chunks import split
from manysides.marks import marks_of


class MemorySource:
    """A source that keeps the Arrays of a dict."""

    def __init__(self, arrays):
        self._shapes = {name: arrays[name].shape for name in arrays}
        self._chunks = {name: split(arrays[name]) for name in arrays}
        self._reads = []

    def shapes(self):
        """Returns a new dict of the names and Shapes of the arrays."""
        return {name: self._shapes[name] for name in self._shapes}

    def chunks(self, name):
        """Returns the ascending list of the chunks of an array that have cells."""
        return sorted(self._chunks[name])

    def marks(self, name, chunk):
        """Returns the marks of a chunk that has cells."""
        return marks_of(self._shapes[name], self._chunks[name][chunk])

    def read(self, name, chunk):
        """Returns the cells of a chunk that has cells, a new dict."""
        self._reads.append((name, chunk))
        cells = self._chunks[name][chunk]
        return {place: cells[place] for place in cells}

    def reads(self):
        """Returns the list of the tuples (name, chunk) that were read, in order."""
        return list(self._reads)

    def forget_reads(self):
        """Empties the list of what was read."""
        self._reads = []
