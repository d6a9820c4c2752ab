"""Points 25.1 to 25.3: workers."""

import random

from manysides.arrays import Array
from manysides.chunks import split
from manysides.coding import encode_chunk
from manysides.parts import part, reads_of
from manysides.queries import shape_of
from manysides.sources import MemorySource
from manysides.workers import Worker, owner_of
from tests import made
from tests.helpers import LINE, PLANE, Case

KEYS = [(5, "m", (0,)), (5, "m", (1,)), (4, "m", (1,)), (5, "k", (1,)), (5, "mm", (0, 2)), (10, "a", (0,))]


def chunks_of(name, array):
    """Returns the list of the tuples (name, chunk, octets) of the chunks of an Array."""
    return [(name, chunk, tuple(encode_chunk(array.shape, chunk, cells))) for chunk, cells in split(array).items()]


class OwnerTest(Case):
    def test_example(self):
        self.assert_same(owner_of((5, "m", (2, 4)), 3), 1)

    def test_owners(self):
        for key, count, owner in (((5, "m", (0,)), 1, 0), ((5, "m", (0,)), 3, 1), ((5, "m", (1,)), 3, 2), ((5, "m", (2,)), 3, 0),
                                  ((0, "m", (2,)), 3, 0), ((99, "m", (2,)), 3, 0), ((5, "mm", (2,)), 3, 1), ((5, "k", (2,)), 3, 0),
                                  ((5, "x" * 30, (7, 0, 1)), 7, 3), ((5, "m", (0, 0, 9)), 100, 10), ((5, "m", (9, 0, 0)), 100, 10),
                                  ((1, "ab", (1000000, 2000000)), 10, 2), ((5, "m", (3,)), 2, 0)):
            self.assert_same(owner_of(key, count), owner)


class HeldTest(Case):
    def test_example(self):
        w = Worker()
        self.assert_same([w.receive(("fetch", 1, (5, "m", (0,)))), w.receive(("load", 2, (5, "m", (0,)), (7, 8))),
                          w.receive(("fetch", 3, (5, "m", (0,))))], [("unknown", 1), ("loaded", 2), ("chunk", 3, (7, 8))])

    def test_a_new_worker_holds_nothing(self):
        w = Worker()
        self.assert_same(w.held(), [])
        for key in KEYS:
            self.assert_same(w.receive(("fetch", ("x", key), key)), ("unknown", ("x", key)))
        self.assert_same(w.held(), [])

    def test_loading_and_fetching(self):
        w = Worker()
        for number, key in enumerate(KEYS):
            self.assert_same(w.receive(("load", (number, "chunk"), key, (number, 255))), ("loaded", (number, "chunk")))
            self.assert_same(w.held(), sorted(KEYS[:number + 1]))
            for other, told in enumerate(KEYS):
                wanted = ("chunk", "q", (other, 255)) if other <= number else ("unknown", "q")
                self.assert_same(w.receive(("fetch", "q", told)), wanted)
        self.assert_same(w.held(), [(4, "m", (1,)), (5, "k", (1,)), (5, "m", (0,)), (5, "m", (1,)), (5, "mm", (0, 2)), (10, "a", (0,))])
        w.held().clear()
        self.assert_same(len(w.held()), 6)

    def test_loading_twice(self):
        w = Worker()
        for octets in ((1, 2), (3,), (), (3,)):
            self.assert_same(w.receive(("load", 0, KEYS[0], octets)), ("loaded", 0))
            self.assert_same([w.receive(("fetch", 1, KEYS[0])), w.held()], [("chunk", 1, octets), [KEYS[0]]])

    def test_workers_have_nothing_in_common(self):
        first, second = Worker(), Worker()
        first.receive(("load", 0, KEYS[0], (1,)))
        self.assert_same([second.held(), second.receive(("fetch", 1, KEYS[0]))], [[], ("unknown", 1)])

    def test_falling(self):
        w = Worker()
        self.assertIsNone(w.fall())
        for key in KEYS:
            w.receive(("load", 0, key, (1,)))
        self.assertIsNone(w.fall())
        self.assert_same([w.held(), w.receive(("fetch", 1, KEYS[0]))], [[], ("unknown", 1)])
        self.assert_same([w.receive(("load", 0, KEYS[1], (2,))), w.receive(("fetch", 1, KEYS[1])), w.held()],
                         [("loaded", 0), ("chunk", 1, (2,)), [KEYS[1]]])


class WorkTest(Case):
    ARRAY = Array(LINE, {(1,): (7,), (3,): (None,), (6,): (2,)})

    def test_the_part_in_a_region(self):
        w = Worker()
        chunks = tuple(chunks_of("m", self.ARRAY))
        for region, wanted in ((((0, 9),), (((1,), (7,)), ((3,), (None,)), ((6,), (2,)))), (((2, 6),), (((3,), (None,)), ((6,), (2,)))),
                               (((4, 5),), ())):
            message = ("work", (0, "part", 3), ("scan", "m"), region, (("m", LINE),), chunks)
            self.assert_same(self.assert_unchanged(w.receive, message), ("part", (0, "part", 3), wanted))
        self.assert_same(w.held(), [])

    def test_only_the_chunks_that_are_handed_count(self):
        w = Worker()
        first, second = chunks_of("m", self.ARRAY)
        count = ("group", ("scan", "m"), (), (("n", "count", None),))
        w.receive(("load", 0, (1, "m", (0,)), first[2]))
        for chunks, wanted in (((first, second), (((0,), (3,)),)), ((first,), (((0,), (2,)),)), ((second,), (((0,), (1,)),)), ((), ())):
            self.assert_same(w.receive(("work", "q", count, ((0, 0),), (("m", LINE),), chunks)), ("part", "q", wanted))
            w.fall()

    def test_several_arrays(self):
        plane = Array(PLANE, {(x, y): (x * y,) for x in range(4) for y in (-1, 1)})
        query = ("across", ("scan", "m"), ("named", ("scan", "p"), (("x", "z"), ("v", "u"))))
        chunks = tuple(chunks_of("m", self.ARRAY) + chunks_of("p", plane))
        found = Worker().receive(("work", 1, query, ((1, 3), (2, 3), (0, 1)), (("m", LINE), ("p", PLANE)), chunks))
        self.assert_same(found, ("part", 1, (((1, 2, 1), (7, 2)), ((1, 3, 1), (7, 3)), ((3, 2, 1), (None, 2)), ((3, 3, 1), (None, 3)))))

    def test_cells_are_ascending(self):
        query = ("turned", ("across", ("scan", "m"), ("named", ("scan", "m"), (("x", "y"), ("v", "u")))), ("y", "x"))
        cells = Worker().receive(("work", 1, query, ((0, 9), (0, 9)), (("m", LINE),), tuple(chunks_of("m", self.ARRAY))))[2]
        self.assertIsInstance(cells, tuple)
        self.assert_same([place for place, _ in cells], sorted([(y, x) for x in (1, 3, 6) for y in (1, 3, 6)]))

    def test_many_queries(self):
        rolls = random.Random(13)
        for query in made.queries(150, 41):
            arrays = made.some_arrays(rolls)
            source = MemorySource(arrays)
            region = made.some_region(rolls, shape_of(query, made.SHAPES))
            told = [row for name in arrays for row in chunks_of(name, arrays[name])]
            wanted = ("part", 0, tuple(sorted(part(query, region, source).items())))
            shapes = tuple([(name, arrays[name].shape) for name in sorted(arrays)])
            self.assert_same(Worker().receive(("work", 0, query, region, shapes, tuple(told))), wanted)
            # The chunks of its list of reads are enough.
            numbers = {chunk for _, chunk in reads_of(query, region, source)}
            some = tuple([row for row in told if row[1] in numbers])
            self.assert_same(Worker().receive(("work", 0, query, region, shapes, some)), wanted)
