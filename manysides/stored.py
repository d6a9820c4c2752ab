"""Arrays in the versions of a store (chapter 23)."""

from manysides.arrays import Array
from manysides.chunks import split
from manysides.coding import decode_chunk, encode_chunk, read_value, write_number, write_value
from manysides.marks import marks_of
from manysides.octets import OctetReader
from manysides.readers import Reader
from manysides.shapes import is_simple_name

CELLS_PREFIX = "d_"
MARKS_PREFIX = "m_"


def cells_name(name):
    """Returns the name of the array of a version that has the cells of an array."""
    return f"{CELLS_PREFIX}{name}"


def marks_name(name):
    """Returns the name of the array of a version that has the marks of an array."""
    return f"{MARKS_PREFIX}{name}"


def encode_marks(shape, marks):
    """Returns the octets of marks."""
    count, entries = marks
    octets = write_number(count)
    for (missing, least, greatest), (name, kind) in zip(entries, shape.attrs):
        octets.extend(write_number(missing))
        if missing < count:
            octets.extend(write_value(kind, least) + write_value(kind, greatest))
    return octets


def decode_marks(shape, octets):
    """Returns the marks that are written as octets."""
    reader = OctetReader(octets)
    count = reader.next_number()
    entries = []
    for name, kind in shape.attrs:
        missing = reader.next_number()
        if missing < count:
            least = read_value(reader, kind)
            entries.append((missing, least, read_value(reader, kind)))
        else:
            entries.append((missing, None, None))
    return (count, tuple(entries))


def stored_array(array):
    """Returns the pair of what Store.put takes for the cells and for the marks of an Array."""
    shape = array.shape
    chunks = split(array)
    cells = {chunk: encode_chunk(shape, chunk, chunks[chunk]) for chunk in chunks}
    marks = {chunk: encode_marks(shape, marks_of(shape, chunks[chunk])) for chunk in chunks}
    return ((shape, cells), (shape, marks))


def array_names(store, version):
    """Returns the ascending list of the names of the arrays that stand in a version."""
    told = {name: True for name in store.arrays(version)}
    names = [name[len(CELLS_PREFIX):] for name in told if name.startswith(CELLS_PREFIX)]
    return [name for name in names
            if is_simple_name(name) and marks_name(name) in told and are_alike(store, version, name)]


def are_alike(store, version, name):
    """Returns True if the cells and the marks of an array have the same shape and the same chunks, otherwise False."""
    cells = cells_name(name)
    marks = marks_name(name)
    if store.shape(version, cells) != store.shape(version, marks):
        return False
    return store.chunks(version, cells) == store.chunks(version, marks)


def read_array(store, version, name):
    """Returns the Array with a name that stands in a version."""
    return whole_array(StoreSource(store, version, 0), name)


def whole_array(source, name):
    """Returns the Array with a name that a source tells."""
    lots = [source.read(name, chunk) for chunk in source.chunks(name)]
    return Array(source.shapes()[name], {place: cells[place] for cells in lots for place in cells})


def version_with(store, changes):
    """Returns what Store.put takes for the latest version with changes: a dict of names and Arrays, or None."""
    version = store.latest()
    names = store.arrays(version) if version > 0 else []
    told = {name: (store.shape(version, name), octets_of_chunks(store, version, name)) for name in names}
    standing = latest_names(store)
    for name, array in changes.items():
        if array is not None:
            told[cells_name(name)], told[marks_name(name)] = stored_array(array)
        elif name in standing:
            del told[cells_name(name)], told[marks_name(name)]
    return told


def latest_names(store):
    """Returns the ascending list of the names of the arrays that stand in the latest version, if there is one."""
    return array_names(store, store.latest()) if store.latest() > 0 else []


def octets_of_chunks(store, version, name):
    """Returns the dict of the octets of the chunks of an array of a version."""
    return {chunk: store.chunk(version, name, chunk) for chunk in store.chunks(version, name)}


class StoreSource:
    """A source that tells the arrays that stand in a version of a store."""

    def __init__(self, store, version, room):
        """Raises InvalidVersion."""
        self._store = store
        self._version = version
        self._cells = Reader(store, version, room)
        self._marks = Reader(store, version, room)
        self._shapes = {name: store.shape(version, cells_name(name)) for name in array_names(store, version)}
        self._reads = []

    def shapes(self):
        """Returns a new dict of the names and Shapes of the arrays."""
        return {name: self._shapes[name] for name in self._shapes}

    def chunks(self, name):
        """Returns the ascending list of the chunks of an array that have cells."""
        return self._store.chunks(self._version, cells_name(name))

    def marks(self, name, chunk):
        """Returns the marks of a chunk that has cells."""
        return decode_marks(self._shapes[name], self._marks.chunk(marks_name(name), chunk))

    def read(self, name, chunk):
        """Returns the cells of a chunk that has cells, a new dict."""
        self._reads.append((name, chunk))
        return decode_chunk(self._shapes[name], chunk, self._cells.chunk(cells_name(name), chunk))

    def reads(self):
        """Returns the list of the tuples (name, chunk) of the calls of read so far, in order."""
        return list(self._reads)
