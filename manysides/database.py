"""A database, which several sessions use (chapter 24)."""

from manysides.arrays import Array, check_array
from manysides.parsing import parse_query
from manysides.parts import run
from manysides.queries import operators
from manysides.sessions import Session
from manysides.sources import MemorySource
from manysides.store import Store
from manysides.stored import StoreSource, latest_names, version_with
from manysides.vacuum import forget, vacuum


class Commit:
    """What a commit has changed: a version was made, arrays were changed, and perhaps the list of names."""

    def __init__(self, version, changed, has_changed_names):
        """The names of the changed arrays are told as a list."""
        self.version = version
        self.changed = changed
        self.has_changed_names = has_changed_names

    def clashes_with(self, session):
        """Returns True if a Session has touched what this commit has changed, otherwise False."""
        if self.has_changed_names and session.has_touched_names:
            return True
        return any([name in session.touched for name in self.changed])


class Database:
    """Arrays in the versions of a store."""

    def __init__(self, disk, *, room=16):
        """Opens the database on a disk. May raise PowerLost."""
        self._store = Store(disk)
        self._room = room
        self._sessions = {}
        self._begun = 0
        self._commits = []

    def begin(self):
        """Returns the number of a new session."""
        start = self.latest()
        source = StoreSource(self._store, start, self._room) if start > 0 else MemorySource({})
        self._begun += 1
        self._sessions[self._begun] = Session(start, source)
        return self._begun

    def sessions(self):
        """Returns the ascending list of the numbers of the sessions that have not ended."""
        return sorted(self._sessions)

    def latest(self):
        """Returns the number of the latest version, or 0."""
        return self._store.latest()

    def names(self, session):
        """Returns the ascending list of the names of the arrays."""
        own = self._sessions[session]
        own.has_touched_names = True
        return own.seen_names()

    def shape(self, session, name):
        """Returns the Shape of an array, or None if there is none."""
        own = self._sessions[session]
        own.touch([name])
        return own.shape_of_array(name)

    def ask(self, session, query):
        """Returns the answer of a query, an Array. Raises InvalidQuery."""
        own = self._sessions[session]
        own.touch([row[1] for row in operators(query) if row[0] == "scan"])
        return run(query, own.seen())

    def ask_text(self, session, text):
        """Returns the answer of a query that is written as a text. Raises InvalidWords and InvalidQuery."""
        return self.ask(session, parse_query(text))

    def create(self, session, name, shape):
        """Creates an array without cells. Returns True, or False if there is one with this name."""
        if self.shape(session, name) is not None:
            return False
        self._sessions[session].changes[name] = Array(shape, {})
        return True

    def drop(self, session, name):
        """Drops an array. Returns True, or False if there is none with this name."""
        if self.shape(session, name) is None:
            return False
        self._sessions[session].changes[name] = None
        return True

    def put(self, session, name, cells):
        """Puts cells into an array. Returns True, or False if there is none. Raises InvalidCell."""
        shape = self.shape(session, name)
        if shape is None:
            return False
        check_array(Array(shape, cells))
        own = self._sessions[session].own_array(name)
        for place in cells:
            own.cells[place] = cells[place]
        return True

    def take(self, session, name, places):
        """Takes the cells at some places away. Returns True, or False if there is no such array."""
        if self.shape(session, name) is None:
            return False
        own = self._sessions[session].own_array(name)
        for place in places:
            if place in own.cells:
                del own.cells[place]
        return True

    def keep(self, session, name, query):
        """Keeps the answer of a query under a name, in the place of the array that was there. Raises InvalidQuery."""
        answer = self.ask(session, query)
        own = self._sessions[session]
        own.touch([name])
        own.changes[name] = answer

    def commit(self, session):
        """Ends a session. Returns the number of the version that it makes, 0 if it changed nothing, None if refused."""
        own = self._ended(session)
        if not own.changes:
            return 0
        if any([commit.version > own.start and commit.clashes_with(own) for commit in self._commits]):
            return None
        has_changed_names = self._changes_names(own.changes)
        number = self._store.put(version_with(self._store, own.changes))
        self._commits.append(Commit(number, list(own.changes), has_changed_names))
        return number

    def abort(self, session):
        """Ends a session without an effect."""
        self._ended(session)

    def tidy(self):
        """Forgets what no session uses, and does a vacuum. Returns by how many octets the data file became shorter."""
        starts = [own.start for own in self._sessions.values()]
        # Only a commit behind the beginning of a session that has not ended can be in its way.
        earliest = min(starts, default=self.latest())
        self._commits = [commit for commit in self._commits if commit.version > earliest]
        forget(self._store, [number for number in self._store.versions() if number not in starts])
        return vacuum(self._store)

    def _ended(self, session):
        """Ends the session with a number. Returns its Session."""
        return self._sessions.pop(session)

    def _changes_names(self, changes):
        """Returns True if an array that is changed was not there before, or is not there behind it, otherwise False."""
        before = latest_names(self._store)
        return any([name not in before or array is None for name, array in changes.items()])
