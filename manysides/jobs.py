"""Jobs, which work out the answers of queries with workers (chapter 26)."""

from manysides.arrays import Array
from manysides.chunks import box_of_chunk
from manysides.coding import encode_chunk
from manysides.parts import Engine, all_chunks, plan
from manysides.queries import shape_of
from manysides.workers import owner_of

# The states of a chunk.
WANTED = "wanted"
UNKNOWN = "unknown"
KNOWN = "known"


class Job:
    """A job with its number, for a query on a source whose version has a number, and for so many workers."""

    def __init__(self, number, version, query, source, count):
        """Raises InvalidQuery."""
        self._number = number
        self._version = version
        self._source = source
        self._count = count
        self._shape = shape_of(query, source.shapes())
        self._plan = plan(query, source)
        self._regions = [box_of_chunk(self._shape, chunk) for chunk in all_chunks(self._shape)]
        engine = Engine(self._plan, source)
        self._scanned = sorted(engine.stock)
        self._needs = [needs_in(engine, region) for region in self._regions]
        chunks = sorted({chunk for needs in self._needs for chunk in needs})
        # The states of the chunks that are needed, tuples (name, chunk), and the octets of those that are known.
        self._states = {need: WANTED for need in chunks}
        self._octets = {}
        # The cells of the parts that are there, by the numbers of the regions.
        self._cells_of_parts = {}

    def sends(self):
        """Returns the list of what is to be sent now, pairs of the number of a worker and a message."""
        found = [self._message_for(name, chunk) for name, chunk in self._states
                 if self._states[(name, chunk)] != KNOWN]
        for index, region in enumerate(self._regions):
            if index not in self._cells_of_parts and all([need in self._octets for need in self._needs[index]]):
                found.append(self._work_for(index, region))
        return found

    def receive(self, reply):
        """Takes a reply; it may come late or twice, and then it is ignored."""
        word, label, *facts = reply
        if label[1] == "part":
            if label[2] < len(self._regions) and label[2] not in self._cells_of_parts:
                self._cells_of_parts[label[2]] = facts[0]
        elif label[2:] in self._states:
            self._learn(word, label[2:], facts)

    def is_done(self):
        """Returns True if all regions are done, otherwise False."""
        return len(self._cells_of_parts) == len(self._regions)

    def answer(self):
        """Returns the answer of a job that is done, an Array."""
        return Array(self._shape, {place: values for cells in self._cells_of_parts.values() for place, values in cells})

    def needs(self):
        """Returns the list of the needs of the regions: ascending lists of tuples (name, chunk)."""
        return [list(needs) for needs in self._needs]

    def _learn(self, word, need, facts):
        """Takes a reply about a chunk that is needed."""
        state = self._states[need]
        if word == "chunk" and state != KNOWN:
            self._states[need] = KNOWN
            self._octets[need] = facts[0]
        elif word == "unknown" and state == WANTED:
            self._states[need] = UNKNOWN
        elif word == "loaded" and state == UNKNOWN:
            self._states[need] = WANTED

    def _message_for(self, name, chunk):
        """Returns the pair of the owner of a chunk that is not known and the message to it."""
        label = (self._number, "chunk", name, chunk)
        key = (self._version, name, chunk)
        owner = owner_of(key, self._count)
        if self._states[(name, chunk)] == WANTED:
            return (owner, ("fetch", label, key))
        octets = encode_chunk(self._source.shapes()[name], chunk, self._source.read(name, chunk))
        return (owner, ("load", label, key, tuple(octets)))

    def _work_for(self, index, region):
        """Returns the pair of a worker and the message that asks it for the part in a region."""
        shapes = self._source.shapes()
        told = tuple([(name, shapes[name]) for name in self._scanned])
        chunks = tuple([(name, chunk, self._octets[(name, chunk)]) for name, chunk in self._needs[index]])
        return (index % self._count, ("work", (self._number, "part", index), self._plan, region, told, chunks))


def needs_in(engine, region):
    """Returns the ascending list of the tuples (name, chunk) that are read for a region, each once."""
    return sorted({(engine.layout.rows[number][1], chunk) for number, chunk in engine.reads_in_region(region)})
