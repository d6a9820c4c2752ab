"""Readers, which keep the chunks that they read (chapter 21)."""

from manysides.errors import InvalidVersion


class Reader:
    """Reads the chunks of a version of a store, and keeps the octets of some of them."""

    def __init__(self, store, version, room):
        """Raises InvalidVersion."""
        self._store = store
        self._version = version
        self._room = room
        # The octets by tuples (name, chunk), those that were used least recently first.
        self._kept = {}
        self._hits = 0
        self._reads = 0
        self._check_version()

    def chunk(self, name, chunk):
        """Returns the octets of a chunk, or None. Raises Damaged and InvalidVersion."""
        key = (name, chunk)
        if key in self._kept:
            octets = self._kept.pop(key)
            self._hits += 1
        else:
            self._check_version()
            self._reads += 1
            octets = self._store.chunk(self._version, name, chunk)
        # What is put into a dict again comes last.
        self._kept[key] = octets
        if len(self._kept) > self._room:
            del self._kept[list(self._kept)[0]]
        return None if octets is None else list(octets)

    def hits(self):
        """Returns how many chunks were hits."""
        return self._hits

    def reads(self):
        """Returns how many chunks were read from the store."""
        return self._reads

    def kept(self):
        """Returns the list of the tuples (name, chunk) that are kept, the least recently used first."""
        return list(self._kept)

    def _check_version(self):
        """Returns None. Raises InvalidVersion if the version is not there."""
        if self._version not in self._store.versions():
            raise InvalidVersion(self._version)
