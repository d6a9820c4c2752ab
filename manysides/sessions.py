"""Sessions of a database: what they see, and what they have done (points 24.1 and 24.2)."""

from manysides.sources import MemorySource
from manysides.stored import whole_array


class ChangedSource:
    """A source that tells the arrays of another one, with changes: a dict of names and Arrays, or None for none."""

    def __init__(self, source, changes):
        self._source = source
        self._changes = changes
        self._own = MemorySource({name: changes[name] for name in changes if changes[name] is not None})

    def shapes(self):
        """Returns a new dict of the names and Shapes of the arrays."""
        shapes = {name: shape for name, shape in self._source.shapes().items() if name not in self._changes}
        for name, shape in self._own.shapes().items():
            shapes[name] = shape
        return shapes

    def chunks(self, name):
        """Returns the ascending list of the chunks of an array that have cells."""
        return self._source_of(name).chunks(name)

    def marks(self, name, chunk):
        """Returns the marks of a chunk that has cells."""
        return self._source_of(name).marks(name, chunk)

    def read(self, name, chunk):
        """Returns the cells of a chunk that has cells, a new dict."""
        return self._source_of(name).read(name, chunk)

    def _source_of(self, name):
        """Returns the source that tells an array."""
        return self._own if name in self._changes else self._source


class Session:
    """The version with which a session began, what it has changed, and what it has touched."""

    def __init__(self, start, source):
        """The source tells the arrays of the version with the number start."""
        self.start = start
        self.source = source
        # The arrays that were changed, as the session sees them: Arrays, or None for those that are not there.
        self.changes = {}
        self.touched = {}
        self.has_touched_names = False

    def touch(self, names):
        """Takes down that arrays with some names were touched."""
        for name in names:
            self.touched[name] = True

    def seen(self):
        """Returns the source of the arrays that the session sees."""
        return ChangedSource(self.source, self.changes)

    def shape_of_array(self, name):
        """Returns the Shape of an array that the session sees, or None if there is none."""
        if name not in self.changes:
            return self.source.shapes().get(name)
        array = self.changes[name]
        return None if array is None else array.shape

    def seen_names(self):
        """Returns the ascending list of the names of the arrays that the session sees."""
        names = list(self.source.shapes()) + list(self.changes)
        return sorted({name for name in names if self.shape_of_array(name) is not None})

    def own_array(self, name):
        """Returns the Array with a name that the session sees, to be changed by it alone. From now on it is changed."""
        if name not in self.changes:
            self.changes[name] = whole_array(self.source, name)
        return self.changes[name]
