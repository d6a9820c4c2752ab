"""Answers in parts: an engine that reads only the chunks that it must (chapter 13)."""

from manysides.arrays import Array
from manysides.asks import asks_within
from manysides.chunks import box_of_chunk, chunk_of
from manysides.queries import Layout
from manysides.regions import cells_within, places_of, places_within, whole_region
from manysides.rules import rewritten
from manysides.sieves import allows, span_of
from manysides.teller import cells_over


def part(query, region, source):
    """Returns the cells of the part of a query's answer in a region, a dict."""
    return Engine(query, source).cells_in_region(region)


def run(query, source):
    """Returns the answer of a query as it is, an Array. Raises InvalidQuery."""
    engine = Engine(query, source)
    return Array(engine.shape, engine.cells_in_region(whole_region(engine.shape)))


def answer_chunks(query, source):
    """Returns the list of the tuples (chunk, cells) of the chunks of the answer that have cells."""
    engine = Engine(query, source)
    found = []
    for chunk in all_chunks(engine.shape):
        cells = engine.cells_in_region(box_of_chunk(engine.shape, chunk))
        if cells:
            found.append((chunk, cells))
    return found


def reads_of(query, region, source):
    """Returns the list of reads of a query in a region. Nothing is read."""
    return Engine(query, source).reads_in_region(region)


def plan(query, source):
    """Returns the one of a query and its rewritten query that has fewer reads; the rewritten one of two as good."""
    other = rewritten(query, source.shapes())
    return query if reads_in_all(query, source) < reads_in_all(other, source) else other


def reads_in_all(query, source):
    """Returns the number of the reads of a query in the region of all its bounds."""
    engine = Engine(query, source)
    return len(engine.reads_in_region(whole_region(engine.shape)))


def all_chunks(shape):
    """Returns the ascending list of the chunks of a shape."""
    return places_of(tuple([(0, (high - low) // step) for name, low, high, step in shape.dims]))


class Engine:
    """A query made ready to be worked out, in one region or in several ones, from a source."""

    def __init__(self, query, source):
        """Raises InvalidQuery if the query has no shape."""
        self.source = source
        self.layout = Layout(query, source.shapes())
        self.shape = self.layout.own_shapes[0]
        names = [row[1] for row in self.layout.rows if row[0] == "scan"]
        self.stock = {name: {chunk: True for chunk in source.chunks(name)} for name in names}

    def cells_in_region(self, region):
        """Returns the cells of the part of the answer in a region."""
        layout = self.layout
        asks = asks_within(layout, region)
        found = [{} for _ in layout.rows]
        for number in layout.order:
            if asks[number] is not None:
                asked, condition = asks[number]
                if layout.rows[number][0] == "scan":
                    found[number] = self.scanned(number, asked, condition)
                else:
                    parts = [(layout.own_shapes[inner], found[inner]) for inner in layout.parts[number]]
                    found[number] = cells_over(layout.rows[number], parts, asked)
        return found[0]

    def scanned(self, number, region, condition):
        """Returns the cells of a "scan" in a region, read from the source."""
        name = self.layout.rows[number][1]
        read = [self.source.read(name, chunk) for chunk in self.chunks_to_read(number, region, condition)]
        return cells_within({place: cells[place] for cells in read for place in cells}, region)

    def reads_in_region(self, region):
        """Returns the list of reads in a region: the numbers of the scans and the chunks."""
        asks = asks_within(self.layout, region)
        reads = []
        for number, row in enumerate(self.layout.rows):
            if row[0] == "scan" and asks[number] is not None:
                asked, condition = asks[number]
                reads.extend([(number, chunk) for chunk in self.chunks_to_read(number, asked, condition)])
        return reads

    def chunks_to_read(self, number, region, condition):
        """Returns the ascending list of the chunks that a "scan" reads for a region."""
        shape = self.layout.own_shapes[number]
        first = chunk_of(shape, [low for low, high in region])
        last = chunk_of(shape, [high for low, high in region])
        name = self.layout.rows[number][1]
        chunks = places_within(self.stock[name], tuple(zip(first, last)))
        return [chunk for chunk in chunks if condition is None or self.can_be_true(condition, shape, name, chunk)]

    def can_be_true(self, condition, shape, name, chunk):
        """Returns True if the span of a condition in a chunk allows True, otherwise False."""
        span = span_of(condition, shape, box_of_chunk(shape, chunk), self.source.marks(name, chunk))
        return allows(span, True)
