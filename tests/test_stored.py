"""Points 23.1 to 23.3: arrays in a store."""

import random

from manysides.arrays import Array
from manysides.chunks import split
from manysides.coding import encode_chunk
from manysides.disk import Disk
from manysides.errors import Damaged, InvalidVersion
from manysides.marks import marks_of
from manysides.parts import part, plan, reads_of, run
from manysides.regions import whole_region
from manysides.shapes import Shape
from manysides.sources import MemorySource
from manysides.store import Store
from manysides.stored import StoreSource, array_names, decode_marks, encode_marks, read_array, stored_array
from manysides.teller import tell
from manysides.vacuum import forget, vacuum
from tests import made
from tests.helpers import EDGE, Case
from tests.stores import disk_of, files_of

SHAPE = Shape((("x", 0, 9, 4), ("y", -1, 3, 2)), (("v", "int"), ("f", "flag"), ("t", "text")))
CELLS = {(9, 3): (1, True, "a"), (0, -1): (2, None, None), (1, 0): (-300, False, "b\n"), (4, 1): (None, None, None)}
KINDS = Shape((("x", 0, 9, 5),), (("v", "int"), ("f", "flag"), ("t", "text")))


def number(n):
    """Returns the octets of a number."""
    return [n] if n < 128 else [128 + n % 128] + number(n // 128)


def signed(n):
    return number(2 * n if n >= 0 else -2 * n - 1)


def prefixed(arrays):
    """Returns what Store.put takes for the Arrays of a dict."""
    told = {}
    for name, array in arrays.items():
        told[f"d_{name}"], told[f"m_{name}"] = stored_array(array)
    return told


class MarksTest(Case):
    def assert_octets(self, shape, marks, octets):
        self.assert_same(self.assert_unchanged(encode_marks, shape, marks), octets)
        self.assert_same(self.assert_unchanged(decode_marks, shape, octets), marks)

    def test_example(self):
        s = Shape((("x", 0, 9, 5),), (("v", "int"), ("w", "text")))
        self.assert_same(encode_marks(s, (2, ((0, -8, 7), (1, "a", "a")))), [2, 0, 15, 14, 1, 1, 97, 1, 97])
        self.assert_same(decode_marks(s, [2, 2, 2]), (2, ((2, None, None), (2, None, None))))

    def test_each_kind(self):
        self.assert_octets(KINDS, (3, ((0, -64, 64), (0, False, True), (0, "", "~"))), [3, 0, 127, 128, 1, 0, 0, 1, 0, 0, 1, 126])
        self.assert_octets(KINDS, (3, ((0, 0, 0), (0, False, False), (0, "a\n", "b"))), [3, 0, 0, 0, 0, 0, 0, 0, 2, 97, 10, 1, 98])
        self.assert_octets(KINDS, (3, ((0, -EDGE, EDGE), (0, True, True), (0, "x" * 127, "x" * 200))),
                           [3, 0] + signed(-EDGE) + signed(EDGE) + [0, 1, 1, 0, 127] + [120] * 127 + [200, 1] + [120] * 200)

    def test_missing_values(self):
        self.assert_octets(KINDS, (3, ((1, 5, 6), (2, True, True), (2, "a", "a"))), [3, 1, 10, 12, 2, 1, 1, 2, 1, 97, 1, 97])
        self.assert_octets(KINDS, (3, ((3, None, None), (3, None, None), (3, None, None))), [3, 3, 3, 3])
        self.assert_octets(KINDS, (3, ((3, None, None), (0, False, True), (3, None, None))), [3, 3, 0, 0, 1, 3])
        self.assert_octets(KINDS, (1, ((1, None, None), (0, False, False), (0, "", ""))), [1, 1, 0, 0, 0, 0, 0, 0])

    def test_many_cells(self):
        self.assert_octets(KINDS, (300, ((299, -1, -1), (300, None, None), (128, "a", "b"))),
                           [172, 2, 171, 2, 1, 1, 172, 2, 128, 1, 1, 97, 1, 98])
        self.assert_octets(KINDS, (100000, ((0, 1, 2), (100000, None, None), (99999, "", "c"))),
                           number(100000) + [0, 2, 4] + number(100000) + number(99999) + [0, 1, 99])

    def test_marks_of_cells(self):
        rolls = random.Random(3)
        for _ in range(200):
            cells = {(x,): made.values_for(rolls, KINDS) for x in range(rolls.randint(1, 5))}
            marks = marks_of(KINDS, cells)
            self.assert_same(decode_marks(KINDS, encode_marks(KINDS, marks)), marks)


class StoredTest(Case):
    def test_the_two_arrays(self):
        (shape, cells), (other, marks) = self.assert_unchanged(stored_array, Array(SHAPE, CELLS))
        self.assertIsInstance(stored_array(Array(SHAPE, CELLS)), tuple)
        self.assertEqual([shape, other], [SHAPE, SHAPE])
        chunks = split(Array(SHAPE, CELLS))
        self.assert_same(sorted(cells.items()), [(chunk, encode_chunk(SHAPE, chunk, chunks[chunk])) for chunk in sorted(chunks)])
        self.assert_same(sorted(marks.items()), [(chunk, encode_marks(SHAPE, marks_of(SHAPE, chunks[chunk]))) for chunk in sorted(chunks)])
        self.assert_same(sorted(cells), [(0, 0), (1, 1), (2, 2)])

    def test_an_array_without_cells(self):
        (shape, cells), (other, marks) = stored_array(Array(SHAPE, {}))
        self.assertEqual([shape, other], [SHAPE, SHAPE])
        self.assert_same([cells, marks], [{}, {}])
        store = Store(Disk())
        store.put(prefixed({"a": Array(SHAPE, {})}))
        self.assert_same(array_names(store, 1), ["a"])
        self.assertEqual(read_array(store, 1, "a"), Array(SHAPE, {}))

    def test_names(self):
        store = Store(Disk())
        for name in ("a", "Z", "_", "d_a", "m_", "x" * 28):
            store.put(prefixed({name: Array(SHAPE, CELLS)}))
            self.assert_same([array_names(store, store.latest()), store.arrays(store.latest())], [[name], [f"d_{name}", f"m_{name}"]])
            self.assertEqual(read_array(store, store.latest(), name), Array(SHAPE, CELLS))
        store.put(prefixed({name: Array(SHAPE, {}) for name in ("b", "a", "B", "a1", "m_b")}))
        self.assert_same(array_names(store, 7), ["B", "a", "a1", "b", "m_b"])
        self.assert_same(array_names(store, 1), ["a"])
        for version in (0, 8):
            self.assert_error(InvalidVersion, version, array_names, store, version)

    def test_other_arrays(self):
        told = prefixed({"a": Array(SHAPE, CELLS), "c": Array(SHAPE, CELLS)})
        told["d_b"], told["m_e"] = told["d_a"], told["m_a"]
        for name in ("a", "b", "d", "m", "da", "xd_a", "D_a", "M_a", "d_"):
            told[name] = told["d_a"]
        store = Store(Disk())
        store.put(told)
        self.assert_same(array_names(store, 1), ["a", "c"])
        source = StoreSource(store, 1, 3)
        self.assert_same(sorted(source.shapes()), ["a", "c"])

    def test_reading(self):
        rolls = random.Random(6)
        store = Store(Disk())
        wanted = []
        for _ in range(30):
            arrays = made.some_arrays(rolls)
            wanted.append(arrays)
            store.put(prefixed(arrays))
        for version, arrays in enumerate(wanted, 1):
            self.assert_same(array_names(store, version), sorted(arrays))
            for name, array in arrays.items():
                found = read_array(store, version, name)
                self.assertEqual(found, array)
                found.cells.clear()
                self.assertEqual(read_array(store, version, name), array)


class SourceTest(Case):
    def source(self, arrays, room=3):
        store = Store(Disk())
        store.put({})
        store.put(prefixed(arrays))
        return StoreSource(store, 2, room)

    def test_what_it_tells(self):
        source = self.source({"b": Array(SHAPE, CELLS), "a": Array(KINDS, {})})
        shapes = source.shapes()
        self.assert_same(sorted(shapes), ["a", "b"])
        self.assertEqual([shapes["a"], shapes["b"]], [KINDS, SHAPE])
        self.assert_same([source.chunks("a"), source.chunks("b")], [[], [(0, 0), (1, 1), (2, 2)]])
        self.assert_same(source.marks("b", (0, 0)), (2, ((0, -300, 2), (1, False, False), (1, "b\n", "b\n"))))
        self.assert_same(source.marks("b", (1, 1)), (1, ((1, None, None), (1, None, None), (1, None, None))))
        self.assert_same(list(source.read("b", (0, 0)).items()), [((0, -1), (2, None, None)), ((1, 0), (-300, False, "b\n"))])
        self.assert_same(source.reads(), [("b", (0, 0))])

    def test_against_memory(self):
        rolls = random.Random(9)
        for turn in range(30):
            arrays = made.some_arrays(rolls)
            memory, source = MemorySource(arrays), self.source(arrays, turn % 4)
            for name in arrays:
                self.assert_same(source.chunks(name), memory.chunks(name))
                for chunk in memory.chunks(name) * 2:
                    self.assert_same(source.marks(name, chunk), memory.marks(name, chunk))
                    self.assert_same(sorted(source.read(name, chunk).items()), sorted(memory.read(name, chunk).items()))
            self.assert_same(source.reads(), memory.reads())
            self.assertEqual(source.shapes(), memory.shapes())

    def test_reads(self):
        source = self.source({"b": Array(SHAPE, CELLS)}, 1)
        self.assert_same(source.reads(), [])
        for chunk in ((2, 2), (0, 0), (2, 2), (2, 2)):
            source.read("b", chunk)
            source.marks("b", chunk)
        self.assert_same(source.reads(), [("b", (2, 2)), ("b", (0, 0)), ("b", (2, 2)), ("b", (2, 2))])
        reads = source.reads()
        reads.clear()
        self.assert_same(len(source.reads()), 4)

    def test_what_is_returned_may_be_changed(self):
        source = self.source({"b": Array(SHAPE, CELLS)})
        source.shapes().clear()
        source.chunks("b").clear()
        source.read("b", (0, 0)).clear()
        self.assert_same([sorted(source.shapes()), source.chunks("b"), len(source.read("b", (0, 0)))],
                         [["b"], [(0, 0), (1, 1), (2, 2)], 2])

    def test_versions(self):
        store = Store(Disk())
        for version in (0, 1, -1):
            self.assert_error(InvalidVersion, version, StoreSource, store, version, 3)
        store.put(prefixed({"a": Array(KINDS, {(1,): (1, None, None)})}))
        store.put(prefixed({"a": Array(KINDS, {(1,): (2, None, None), (9,): (3, None, None)}), "b": Array(SHAPE, {})}))
        first, second = StoreSource(store, 1, 2), StoreSource(store, 2, 2)
        store.put({})
        self.assert_same([sorted(first.shapes()), sorted(second.shapes())], [["a"], ["a", "b"]])
        self.assert_same([first.chunks("a"), second.chunks("a")], [[(0,)], [(0,), (1,)]])
        self.assert_same([first.read("a", (0,)), second.read("a", (0,))], [{(1,): (1, None, None)}, {(1,): (2, None, None)}])
        forget(store, [1])
        vacuum(store)
        self.assert_same([second.read("a", (1,)), second.marks("a", (1,))], [{(9,): (3, None, None)}, (1, ((0, 3, 3),) + ((1, None, None),) * 2)])

    def test_marks_without_the_chunk_and_chunks_without_the_marks(self):
        for prefix, other in (("d", "m"), ("m", "d")):
            disk = Disk()
            Store(disk).put(prefixed({"a": Array(KINDS, {(1,): (1, None, None)})}))
            files = files_of(disk)
            offset = {"d": 0, "m": 4 + len(stored_array(Array(KINDS, {(1,): (1, None, None)}))[0][1][(0,)])}[prefix]
            files["data.0"][offset] ^= 1
            source = StoreSource(Store(disk_of(files)), 1, 3)
            if other == "m":
                self.assert_same(source.marks("a", (0,))[0], 1)
                self.assertRaises(Damaged, source.read, "a", (0,))
            else:
                self.assert_same(source.read("a", (0,)), {(1,): (1, None, None)})
                self.assertRaises(Damaged, source.marks, "a", (0,))

    def test_each_reader_has_its_room(self):
        for room, kept in ((0, []), (1, [1]), (2, [0, 1]), (9, [0, 1])):
            disk = Disk()
            store = Store(disk)
            store.put(prefixed({"a": Array(KINDS, {(1,): (1, None, None), (6,): (2, None, None)})}))
            source = StoreSource(store, 1, room)
            for k in (0, 1):
                source.read("a", (k,)), source.marks("a", (k,))
            # Now all records are damaged; what the readers keep is told further.
            disk.remove("data.0")
            for k in (1, 0):
                if k in kept:
                    self.assert_same([source.read("a", (k,)), source.marks("a", (k,))[0]], [{(5 * k + 1,): (k + 1, None, None)}, 1])
                else:
                    self.assertRaises(Damaged, source.read, "a", (k,))
                    self.assertRaises(Damaged, source.marks, "a", (k,))

    def test_queries(self):
        rolls = random.Random(10)
        for query in made.queries(120, 33):
            arrays = made.some_arrays(rolls)
            memory, source = MemorySource(arrays), self.source(arrays)
            answer = tell(query, arrays)
            region = whole_region(answer.shape)
            self.assert_same(reads_of(query, region, source), reads_of(query, region, memory))
            self.assert_same([source.reads(), plan(query, source)], [[], plan(query, memory)])
            self.assertEqual(run(query, source), answer)
            run(query, memory)
            self.assert_same(source.reads(), memory.reads())
            self.assertEqual(part(query, region, source), answer.cells)
