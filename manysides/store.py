"""A store, which keeps versions of arrays on a disk (chapter 19)."""

from manysides.errors import Damaged, InvalidVersion
from manysides.roots import Root, decode_root, encode_root, sum_of, write_four

ROOT_FILE = "root"
NEW_ROOT_FILE = "root.new"
DATA_PREFIX = "data."
SUM_LENGTH = 4


def data_file(number):
    """Returns the name of the data file with a number."""
    return f"{DATA_PREFIX}{number}"


def root_on(disk):
    """Returns the Root on a disk, or the first one if there is none. Raises Truncated and Damaged."""
    size = disk.size(ROOT_FILE)
    if size is None:
        return Root(1, 0, ())
    return decode_root(disk.read(ROOT_FILE, 0, size))


def records_by_version(root):
    """Returns a dict of the versions by their numbers: dicts of pairs of a Shape and the dict of the records of chunks.

    A record is a tuple of its offset and the number of its octets.
    """
    found = {}
    for number, arrays in root.versions:
        found[number] = {name: (shape, {chunk: (offset, length) for chunk, offset, length in chunks})
                         for name, shape, chunks in arrays}
    return found


class Store:
    """The versions of arrays on a disk."""

    def __init__(self, disk):
        """Opens the store. May raise PowerLost, and Truncated and Damaged for a root that is none."""
        self.disk = disk
        self._take_root(root_on(disk))
        kept = self.data_name()
        useless = [name for name in disk.names()
                   if name == NEW_ROOT_FILE or (name.startswith(DATA_PREFIX) and name != kept)]
        for name in useless:
            disk.remove(name)

    def versions(self):
        """Returns the ascending list of the numbers of the versions."""
        return sorted(self._versions)

    def latest(self):
        """Returns the greatest number of a version, or 0."""
        return max(self._versions, default=0)

    def arrays(self, version):
        """Returns the ascending list of the names of the arrays of a version. Raises InvalidVersion."""
        return sorted(self._arrays_of(version))

    def shape(self, version, name):
        """Returns the Shape of an array of a version. Raises InvalidVersion."""
        shape, _ = self._arrays_of(version)[name]
        return shape

    def chunks(self, version, name):
        """Returns the ascending list of the chunks of an array that have octets. Raises InvalidVersion."""
        _, records = self._arrays_of(version)[name]
        return sorted(records)

    def chunk(self, version, name, chunk):
        """Returns the octets of a chunk, or None if it has none. Raises InvalidVersion, and Damaged with the offset."""
        _, records = self._arrays_of(version)[name]
        if chunk not in records:
            return None
        offset, length = records[chunk]
        octets = self.sound_octets(offset, length)
        if octets is None:
            raise Damaged(offset)
        return octets

    def put(self, arrays):
        """Puts a version, a dict of names and pairs (shape, dict of chunks and octets). Returns its number."""
        fresh = False
        told = []
        for name in sorted(arrays):
            shape, chunks = arrays[name]
            rows = []
            for chunk in sorted(chunks):
                record = self._record_again(name, chunk, chunks[chunk])
                if record is None:
                    record = self._append_record(chunks[chunk])
                    fresh = True
                rows.append((chunk, *record))
            told.append((name, shape, tuple(rows)))
        if fresh:
            self.disk.sync(self.data_name())
        root = self.root()
        self.write_root(Root(root.upcoming + 1, root.data, root.versions + ((root.upcoming, tuple(told)),)))
        return root.upcoming

    def root(self):
        """Returns the Root of the store."""
        return self._root

    def write_root(self, root):
        """Writes a Root on the disk; only then it counts."""
        self.disk.append(NEW_ROOT_FILE, encode_root(root))
        self.disk.sync(NEW_ROOT_FILE)
        self.disk.rename(NEW_ROOT_FILE, ROOT_FILE)
        self.disk.sync_names()
        self._take_root(root)

    def data_name(self):
        """Returns the name of the data file."""
        return data_file(self._root.data)

    def data_size(self):
        """Returns the number of octets of the data file, or 0 if there is none."""
        size = self.disk.size(self.data_name())
        return 0 if size is None else size

    def standing_octets(self, offset, length):
        """Returns the octets of a record as they stand, with those of its sum; fewer if the data file ends earlier."""
        if self.disk.size(self.data_name()) is None:
            return []
        return self.disk.read(self.data_name(), offset, SUM_LENGTH + length)

    def sound_octets(self, offset, length):
        """Returns the octets of a record without those of its sum, or None if it is damaged."""
        standing = self.standing_octets(offset, length)
        octets = standing[SUM_LENGTH:]
        if len(octets) < length or standing[:SUM_LENGTH] != write_four(sum_of(octets)):
            return None
        return octets

    def _take_root(self, root):
        """Makes a Root the one of this store."""
        self._root = root
        self._versions = records_by_version(root)

    def _arrays_of(self, version):
        """Returns the dict of the arrays of a version. Raises InvalidVersion."""
        if version not in self._versions:
            raise InvalidVersion(version)
        return self._versions[version]

    def _record_again(self, name, chunk, octets):
        """Returns the record that the latest version has for a chunk with the same octets, or None."""
        if self.latest() == 0:
            return None
        _, records = self._arrays_of(self.latest()).get(name, (None, {}))
        if chunk not in records:
            return None
        offset, length = records[chunk]
        return records[chunk] if self.sound_octets(offset, length) == octets else None

    def _append_record(self, octets):
        """Appends a record to the data file. Returns its offset and the number of its octets."""
        offset = self.data_size()
        self.disk.append(self.data_name(), write_four(sum_of(octets)) + octets)
        return (offset, len(octets))
