"""Points 21.1 and 21.2: readers."""

import random

from manysides.disk import Disk
from manysides.errors import Damaged, InvalidVersion
from manysides.readers import Reader
from manysides.shapes import Shape
from manysides.store import Store
from manysides.vacuum import forget, vacuum
from tests.helpers import Case
from tests.stores import LINE, WIDE, disk_of, files_of

ARRAYS = {"a": (LINE, {(0,): [7], (1,): [8, 8], (2,): [9], (3,): []}), "b": (WIDE, {(0, 1): [5], (1, 1): [6]})}
# The last ones have no octets.
KEYS = [("a", (0,)), ("a", (1,)), ("a", (2,)), ("a", (3,)), ("b", (0, 1)), ("b", (1, 1)), ("a", (4,)), ("b", (0, 0))]


def octets_of(key):
    return ARRAYS[key[0]][1].get(key[1])


def store_with(*versions):
    store = Store(Disk())
    for arrays in versions:
        store.put(arrays)
    return store


class OrderTest(Case):
    def assert_counts(self, reader, hits, reads, kept):
        self.assert_same([reader.hits(), reader.reads(), reader.kept()], [hits, reads, kept])

    def test_example(self):
        store = store_with({"a": (Shape((("x", 0, 9, 2),), (("v", "int"),)), {(0,): [7], (1,): [8], (2,): [9]})})
        reader = Reader(store, 1, 2)
        self.assert_same([reader.chunk("a", (k,)) for k in (0, 1, 0, 2, 1)], [[7], [8], [7], [9], [8]])
        self.assert_counts(reader, 1, 4, [("a", (2,)), ("a", (1,))])

    def test_at_first(self):
        self.assert_counts(Reader(store_with(ARRAYS), 1, 5), 0, 0, [])

    def test_no_room(self):
        reader = Reader(store_with(ARRAYS), 1, 0)
        for count, key in enumerate((KEYS[0], KEYS[0], KEYS[6], KEYS[6]), 1):
            self.assert_same(reader.chunk(*key), octets_of(key))
            self.assert_counts(reader, 0, count, [])

    def test_room_for_one(self):
        reader = Reader(store_with(ARRAYS), 1, 1)
        for key, hits, reads in ((0, 0, 1), (0, 1, 1), (1, 1, 2), (0, 1, 3), (0, 2, 3), (0, 3, 3), (6, 3, 4), (6, 4, 4)):
            self.assert_same(reader.chunk(*KEYS[key]), octets_of(KEYS[key]))
            self.assert_counts(reader, hits, reads, [KEYS[key]])

    def test_the_one_that_was_used_least_recently_is_let_go(self):
        reader = Reader(store_with(ARRAYS), 1, 3)
        for key, kept in ((0, [0]), (4, [0, 4]), (2, [0, 4, 2]), (0, [4, 2, 0]), (2, [4, 0, 2]), (5, [0, 2, 5]), (4, [2, 5, 4]),
                          (2, [5, 4, 2]), (2, [5, 4, 2]), (6, [4, 2, 6]), (7, [2, 6, 7]), (6, [2, 7, 6]), (3, [7, 6, 3])):
            reader.chunk(*KEYS[key])
            self.assert_same(reader.kept(), [KEYS[number] for number in kept])
        self.assert_counts(reader, 5, 8, [KEYS[7], KEYS[6], KEYS[3]])

    def test_the_same_chunk_of_another_array(self):
        store = store_with({"a": (LINE, {(0,): [1]}), "b": (LINE, {(0,): [2]})})
        reader = Reader(store, 1, 5)
        self.assert_same([reader.chunk("a", (0,)), reader.chunk("b", (0,)), reader.chunk("a", (0,))], [[1], [2], [1]])
        self.assert_counts(reader, 1, 2, [("b", (0,)), ("a", (0,))])

    def test_many_orders(self):
        rolls = random.Random(4)
        for room in (0, 1, 2, 3, 4, 7, 8, 20):
            reader = Reader(store_with(ARRAYS), 1, room)
            kept, hits, reads = [], 0, 0
            for _ in range(200):
                key = rolls.choice(KEYS)
                hits, reads = (hits + 1, reads) if key in kept else (hits, reads + 1)
                kept = [other for other in kept if other != key] + [key]
                kept = kept[len(kept) - room:] if len(kept) > room else kept
                self.assert_same(reader.chunk(*key), octets_of(key))
                self.assert_counts(reader, hits, reads, kept)

    def test_what_is_returned_may_be_changed(self):
        reader = Reader(store_with(ARRAYS), 1, 5)
        reader.chunk("a", (0,)).append(1)
        self.assert_same(reader.chunk("a", (0,)), [7])
        reader.chunk("a", (0,)).append(1)
        reader.kept().clear()
        self.assert_same(reader.chunk("a", (0,)), [7])
        self.assert_counts(reader, 3, 1, [("a", (0,))])
        kept = reader.kept()
        reader.chunk("a", (1,))
        self.assertEqual(kept, [("a", (0,))])


class StoreTest(Case):
    def test_versions_that_are_not_there(self):
        store = store_with(ARRAYS, {})
        forget(store, [1])
        for number in (0, 1, 3, -2):
            self.assert_error(InvalidVersion, number, Reader, store, number, 3)
        self.assert_error(InvalidVersion, 0, Reader, Store(Disk()), 0, 0)
        self.assert_same(Reader(store, 2, 3).kept(), [])

    def test_an_older_version(self):
        store = store_with(ARRAYS, {"a": (LINE, {(0,): [1]})}, {})
        reader = Reader(store, 1, 2)
        self.assert_same([reader.chunk("a", (0,)), Reader(store, 2, 2).chunk("a", (0,))], [[7], [1]])

    def test_putting_and_vacuum_in_between(self):
        store = store_with({"a": (LINE, {(4,): [1]})}, ARRAYS)
        reader = Reader(store, 2, 2)
        self.assert_same([reader.chunk("a", (0,)), reader.chunk("a", (1,))], [[7], [8, 8]])
        store.put({"a": (LINE, {(0,): [1], (2,): [1]})})
        self.assert_same([reader.chunk("a", (0,)), reader.chunk("a", (2,)), reader.chunk("a", (4,))], [[7], [9], None])
        forget(store, [1])
        vacuum(store)
        self.assert_same([reader.chunk("a", (2,)), reader.chunk("a", (1,)), reader.chunk("b", (1, 1))], [[9], [8, 8], [6]])
        self.assert_same([reader.hits(), reader.reads(), reader.kept()], [2, 6, [("a", (1,)), ("b", (1, 1))]])

    def test_a_version_that_was_forgotten(self):
        store = store_with(ARRAYS, {})
        reader = Reader(store, 1, 2)
        for key in (KEYS[0], KEYS[1], KEYS[6]):
            reader.chunk(*key)
        forget(store, [1])
        vacuum(store)
        self.assert_same([reader.chunk("a", (1,)), reader.chunk("a", (4,))], [[8, 8], None])
        before = [reader.hits(), reader.reads(), reader.kept()]
        self.assert_same(before, [2, 3, [("a", (1,)), ("a", (4,))]])
        for key in (KEYS[0], KEYS[2], KEYS[7]):
            self.assert_error(InvalidVersion, 1, reader.chunk, *key)
            self.assert_same([reader.hits(), reader.reads(), reader.kept()], before)
        self.assert_same(reader.chunk("a", (1,)), [8, 8])
        self.assert_same([reader.hits(), reader.reads(), reader.kept()], [3, 3, [("a", (4,)), ("a", (1,))]])

    def test_a_damaged_chunk(self):
        disk = Disk()
        Store(disk).put(ARRAYS)
        files = files_of(disk)
        # The records stand at 0, 5, 11, 16, 20 and 25; this is the one of [9].
        files["data.0"][15] += 1
        reader = Reader(Store(disk_of(files)), 1, 2)
        self.assert_same([reader.chunk("a", (0,)), reader.chunk("a", (1,))], [[7], [8, 8]])
        for count in (3, 4):
            self.assert_error(Damaged, 11, reader.chunk, "a", (2,))
            self.assert_same([reader.hits(), reader.reads(), reader.kept()], [0, count, [("a", (0,)), ("a", (1,))]])
        self.assert_same([reader.chunk("a", (0,)), reader.hits(), reader.reads()], [[7], 1, 4])
        self.assert_same(reader.kept(), [("a", (1,)), ("a", (0,))])
