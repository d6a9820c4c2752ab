"""Points 19.1 to 19.4 and 19.6: the store."""

from manysides.disk import Disk
from manysides.errors import Damaged, InvalidVersion, PowerLost, Truncated
from manysides.roots import Root, encode_root
from manysides.shapes import Shape
from manysides.store import Store
from tests.helpers import Case, copied
from tests.stores import LINE, WIDE, LoggedDisk, disk_of, files_of, record, records, told, writing

A1 = {"a": (LINE, {(0,): [7, 8], (3,): [9]})}


class VersionsTest(Case):
    def test_example(self):
        line = Shape((("x", 0, 9, 5),), (("v", "int"),))
        disk = Disk()
        store = Store(disk)
        self.assert_same([store.put({"a": (line, {(0,): [7, 8]})}), store.put({"a": (line, {(0,): [7, 8], (1,): [9]})}),
                          disk.size("data.0")], [1, 2, 11])
        again = Store(disk.lose([]))
        self.assert_same([again.versions(), again.chunk(2, "a", (1,)), again.chunk(1, "a", (1,))], [[1, 2], [9], None])

    def test_a_store_without_versions(self):
        disk = Disk()
        store = Store(disk)
        self.assert_same([store.versions(), store.latest(), disk.names(), disk.done()], [[], 0, [], 0])
        self.assertEqual(store.root(), Root(1, 0, ()))

    def test_a_version_without_arrays(self):
        disk = Disk()
        store = Store(disk)
        self.assert_same([store.put({}), store.put({}), store.versions(), store.latest()], [1, 2, [1, 2], 2])
        self.assert_same([store.arrays(1), store.arrays(2), disk.done()], [[], [], 8])
        self.assert_same(files_of(disk), {"root": encode_root(Root(3, 0, ((1, ()), (2, ()))))})
        self.assertEqual(store.root(), Root(3, 0, ((1, ()), (2, ()))))

    def test_what_versions_tell(self):
        disk = Disk()
        store = Store(disk)
        versions = [
            {"b": (LINE, {(4,): [1], (0,): [2, 2], (2,): []}), "a_1": (WIDE, {(1, 2): [3], (1, 0): [255, 0], (0, 2): [4]}),
             "Z": (WIDE, {})},
            {"b": (LINE, {(0,): [2, 2]})},
            {},
            {"b": (WIDE, {(0, 0): [5]}), "c": (LINE, {})},
        ]
        wanted = []
        for number, arrays in enumerate(versions, 1):
            self.assert_same(self.assert_unchanged(store.put, arrays), number)
            wanted.append((number, [(name, arrays[name][0].dims, arrays[name][0].attrs, sorted(arrays[name][1].items()))
                                    for name in sorted(arrays)]))
            self.assert_same(told(store), wanted)
            self.assert_same(told(Store(disk.lose([]))), wanted)
            self.assert_same([store.latest(), Store(disk.lose([])).latest()], [number, number])
        self.assert_same(store.arrays(1), ["Z", "a_1", "b"])
        self.assert_same([store.chunks(1, "a_1"), store.chunks(1, "Z"), store.chunks(4, "b")],
                         [[(0, 2), (1, 0), (1, 2)], [], [(0, 0)]])
        self.assertEqual([store.shape(1, "b"), store.shape(4, "b")], [LINE, WIDE])
        self.assert_same([store.chunk(1, "b", (2,)), store.chunk(1, "b", (1,)), store.chunk(2, "b", (4,)),
                          store.chunk(1, "Z", (0, 0)), store.chunk(4, "b", (0, 1))], [[], None, None, None, None])

    def test_versions_that_are_not_there(self):
        store = Store(Disk())
        for count in range(3):
            for number in (0, -1, count + 1, 1000):
                self.assert_error(InvalidVersion, number, store.arrays, number)
                self.assert_error(InvalidVersion, number, store.shape, number, "a")
                self.assert_error(InvalidVersion, number, store.chunks, number, "a")
                self.assert_error(InvalidVersion, number, store.chunk, number, "a", (0,))
            store.put(A1)
        self.assert_same([store.arrays(1), store.chunk(3, "a", (3,))], [["a"], [9]])

    def test_what_is_passed_and_returned_is_copied(self):
        store = Store(Disk())
        arrays = copied(A1)
        store.put(arrays)
        wanted = told(store)
        arrays["a"][1][(0,)].append(5)
        arrays["a"][1][(1,)] = [6]
        arrays["c"] = (LINE, {})
        store.versions().append(2)
        store.arrays(1).append("c")
        store.chunks(1, "a").clear()
        store.chunk(1, "a", (0,)).append(1)
        self.assert_same(told(store), wanted)
        self.assert_same(store.put(arrays), 2)
        self.assert_same([store.arrays(1), store.arrays(2), store.chunk(2, "a", (0,))], [["a"], ["a", "c"], [7, 8, 5]])


class FilesTest(Case):
    def test_files_and_deeds_of_a_put(self):
        disk = LoggedDisk()
        store = Store(disk)
        store.put({"b": (LINE, {(3,): [1, 2], (0,): []}), "a": (LINE, {(4,): [255] * 300}), "A": (WIDE, {})})
        rows = (("A", WIDE, ()), ("a", LINE, (((4,), 0, 300),)), ("b", LINE, (((0,), 304, 0), ((3,), 308, 2))))
        root = Root(2, 0, ((1, rows),))
        self.assertEqual(store.root(), root)
        self.assert_same(files_of(disk), {"data.0": records([255] * 300, [], [1, 2]), "root": encode_root(root)})
        self.assert_same(disk.deeds, [("append", "data.0", record([255] * 300)), ("append", "data.0", record([])),
                                      ("append", "data.0", record([1, 2])), ("sync", "data.0")] + writing(encode_root(root)))
        self.assert_same(record([]), [0, 0, 0, 1])

    def test_names_before_chunks(self):
        disk = Disk()
        Store(disk).put({"b": (WIDE, {(1, 0): [1], (0, 2): [2], (0, 1): [3]}), "a": (LINE, {(4,): [4], (3,): [5]})})
        self.assert_same(disk.read("data.0", 0, 99), records([5], [4], [3], [2], [1]))

    def test_the_same_octets_twice_are_two_records(self):
        disk = Disk()
        store = Store(disk)
        store.put({"a": (LINE, {(0,): [5], (1,): [5]}), "b": (LINE, {(0,): [5]})})
        self.assert_same(disk.read("data.0", 0, 99), records([5], [5], [5]))
        self.assert_same([row[2] for row in store.root().versions[0][1]], [(((0,), 0, 1), ((1,), 5, 1)), (((0,), 10, 1),)])

    def test_records_that_are_used_again(self):
        disk = LoggedDisk()
        store = Store(disk)
        store.put({"a": (LINE, {(0,): [1, 2], (1,): [3], (2,): []}), "b": (LINE, {(0,): [4]})})
        disk.deeds.clear()
        store.put({"a": (LINE, {(0,): [1, 2], (1,): [3], (2,): []}), "b": (LINE, {(0,): [4]})})
        first, second = store.root().versions
        self.assert_same([deed[:2] for deed in disk.deeds], [deed[:2] for deed in writing([])])
        self.assertEqual(second[1], first[1])
        self.assert_same(disk.read("data.0", 0, 99), records([1, 2], [3], [], [4]))

    def test_octets_that_differ(self):
        disk = LoggedDisk()
        store = Store(disk)
        store.put({"a": (LINE, {(0,): [1, 2], (1,): [3], (2,): [], (3,): [4, 4]})})
        disk.deeds.clear()
        store.put({"a": (LINE, {(0,): [1, 2, 0], (1,): [3], (2,): [0], (3,): [4], (4,): [3]})})
        self.assert_same(disk.deeds[:5], [("append", "data.0", record([1, 2, 0])), ("append", "data.0", record([0])),
                                          ("append", "data.0", record([4])), ("append", "data.0", record([3])),
                                          ("sync", "data.0")])
        self.assert_same([len(disk.deeds), store.root().versions[1][1][0][2]],
                         [9, (((0,), 21, 3), ((1,), 6, 1), ((2,), 28, 1), ((3,), 33, 1), ((4,), 38, 1))])
        self.assert_same([store.chunk(1, "a", (0,)), store.chunk(2, "a", (0,))], [[1, 2], [1, 2, 0]])

    def test_another_name_or_another_chunk(self):
        disk = Disk()
        store = Store(disk)
        store.put({"a": (LINE, {(0,): [1]})})
        store.put({"b": (LINE, {(0,): [1]}), "a": (LINE, {(1,): [1]})})
        self.assert_same(disk.read("data.0", 0, 99), records([1], [1], [1]))
        self.assert_same([row[2] for row in store.root().versions[1][1]], [(((1,), 5, 1),), (((0,), 10, 1),)])

    def test_only_an_elder_version_has_it(self):
        disk = Disk()
        store = Store(disk)
        for arrays in (A1, {}, A1, {"a": (LINE, {(0,): [1]})}, A1):
            store.put(arrays)
        self.assert_same(disk.read("data.0", 0, 99), records([7, 8], [9], [7, 8], [9], [1], [7, 8], [9]))
        self.assert_same(store.root().versions[4][1][0][2], (((0,), 27, 2), ((3,), 33, 1)))

    def test_another_shape_of_the_same_array(self):
        disk = Disk()
        store = Store(disk)
        store.put(A1)
        store.put({"a": (Shape((("y", -5, 90, 1),), (("w", "text"), ("f", "flag"))), A1["a"][1])})
        self.assert_same(disk.read("data.0", 0, 99), records([7, 8], [9]))
        self.assert_same([store.shape(1, "a").dims, store.shape(2, "a").dims], [(("x", 0, 9, 2),), (("y", -5, 90, 1),)])

    def test_the_number_of_deeds(self):
        disk = Disk()
        store = Store(disk)
        for arrays, count in ((A1, 7), (A1, 4), ({}, 4), (A1, 7), ({"a": (LINE, {(0,): [7, 8]})}, 4), ({"a": (LINE, {})}, 4),
                              ({"a": (LINE, {(0,): [7, 8]}), "b": (LINE, {(0,): [7]}), "c": (LINE, {(1,): [7]})}, 8)):
            before = disk.done()
            store.put(arrays)
            self.assert_same(disk.done() - before, count)

    def test_reading_does_no_deed(self):
        disk = Disk()
        store = Store(disk)
        store.put(A1)
        before = disk.done()
        told(store), store.latest(), store.root()
        self.assert_same(disk.done(), before)


class OpeningTest(Case):
    ROOT = Root(9, 3, ((4, ()), (8, (("a", LINE, (((1,), 2, 1),)),))))

    def test_what_the_root_tells(self):
        disk = disk_of({"root": encode_root(self.ROOT), "data.3": [7, 7] + record([5])})
        store = Store(disk)
        self.assertEqual(store.root(), self.ROOT)
        self.assert_same(told(store), [(4, []), (8, [("a", LINE.dims, LINE.attrs, [((1,), [5])])])])
        self.assert_same([store.latest(), store.put({"a": (LINE, {(1,): [5], (0,): [6]})})], [8, 9])
        self.assert_same(files_of(disk)["data.3"], [7, 7] + records([5], [6]))
        self.assert_same(store.root().versions[2], (9, (("a", LINE, (((0,), 7, 1), ((1,), 2, 1))),)))
        self.assert_same(store.root().upcoming, 10)

    def test_files_that_are_removed(self):
        files = {"data": [1], "data.": [2], "data.0": [3], "data.03": [4], "data.3": [5], "data.3.3": [6], "data.x": [7],
                 "mydata.1": [8], "root": encode_root(self.ROOT), "root.new": [9], "root.news": [10], "a": [11]}
        disk = disk_of(files, LoggedDisk())
        disk.deeds.clear()
        self.assertEqual(Store(disk).root(), self.ROOT)
        gone = ["data.", "data.0", "data.03", "data.3.3", "data.x", "root.new"]
        self.assert_same(disk.deeds, [("remove", name) for name in gone])
        self.assert_same(files_of(disk), {name: files[name] for name in sorted(files) if name not in gone})

    def test_removing_without_a_root(self):
        disk = disk_of({"root.new": encode_root(self.ROOT), "data.0": [1, 2], "data.1": [3], "data.10": []}, LoggedDisk())
        disk.deeds.clear()
        store = Store(disk)
        self.assert_same(disk.deeds, [("remove", "data.1"), ("remove", "data.10"), ("remove", "root.new")])
        self.assertEqual(store.root(), Root(1, 0, ()))
        self.assert_same([store.versions(), store.put({"a": (LINE, {(0,): [5]})})], [[], 1])
        self.assert_same(files_of(disk)["data.0"], [1, 2] + record([5]))
        self.assert_same([store.chunk(1, "a", (0,)), store.root().versions[0][1][0][2]], [[5], (((0,), 2, 1),)])

    def test_nothing_to_remove(self):
        for files in ({}, {"a": [1]}, {"root": encode_root(self.ROOT)}, {"root": encode_root(self.ROOT), "data.3": [1]}):
            disk = disk_of(files)
            before = disk.done()
            Store(disk)
            self.assert_same([disk.done() - before, files_of(disk)], [0, {name: files[name] for name in sorted(files)}])

    def test_octets_that_are_no_root(self):
        octets = encode_root(self.ROOT)
        self.assert_error(Truncated, 0, Store, disk_of({"root": []}))
        self.assert_error(Truncated, len(octets) - 1, Store, disk_of({"root": octets[:-1], "root.new": octets}))
        self.assert_error(Damaged, len(octets), Store, disk_of({"root": octets + [0]}))
        self.assert_error(Damaged, 1, Store, disk_of({"root": [77, 84] + octets[2:]}))
        self.assert_error(Damaged, len(octets) - 4, Store, disk_of({"root": octets[:-1] + [octets[-1] ^ 1]}))

    def test_the_root_is_read_before_files_are_removed(self):
        disk = disk_of({"root": [77], "root.new": [1], "data.7": [2]})
        self.assert_error(Truncated, 1, Store, disk)
        self.assert_same(disk.names(), ["data.7", "root", "root.new"])

    def test_power_that_is_lost_in_opening(self):
        files = {"data.1": [1], "data.3": [2], "data.5": [3], "root": encode_root(self.ROOT), "root.new": [4]}
        for count in range(3):
            disk = disk_of(files)
            done = disk.done()
            disk.allow(count)
            self.assert_error(PowerLost, done + count, Store, disk)
            gone = ["data.1", "data.5", "root.new"][:count]
            self.assert_same(disk.names(), [name for name in files if name not in gone])
        disk = disk_of(files)
        disk.allow(3)
        self.assertEqual(Store(disk).root(), self.ROOT)


class DamageTest(Case):
    def damaged(self, change):
        """Returns a store whose data file was changed by a function, with the records [7, 8] at 0 and [9] at 6."""
        disk = Disk()
        Store(disk).put(A1)
        files = files_of(disk)
        files["data.0"] = change(files["data.0"])
        return Store(disk_of(files))

    def test_each_octet_of_a_record(self):
        for at in range(11):
            store = self.damaged(lambda octets: octets[:at] + [(octets[at] + 1) % 256] + octets[at + 1:])
            self.assert_error(Damaged, 0 if at < 6 else 6, store.chunk, 1, "a", (0,) if at < 6 else (3,))
            self.assert_same(store.chunk(1, "a", (3,) if at < 6 else (0,)), [9] if at < 6 else [7, 8])
            self.assert_same([store.chunks(1, "a"), store.chunk(1, "a", (1,))], [[(0,), (3,)], None])

    def test_a_record_that_does_not_stand_wholly(self):
        for count in range(11):
            store = self.damaged(lambda octets: octets[:count])
            self.assert_error(Damaged, 6, store.chunk, 1, "a", (3,))
            if count < 6:
                self.assert_error(Damaged, 0, store.chunk, 1, "a", (0,))
            else:
                self.assert_same(store.chunk(1, "a", (0,)), [7, 8])

    def test_an_empty_record_that_is_cut_off(self):
        root = Root(2, 0, ((1, (("a", LINE, (((0,), 0, 0), ((1,), 4, 0))),)),))
        store = Store(disk_of({"root": encode_root(root), "data.0": [0, 0, 0, 1, 0, 0, 0]}))
        self.assert_same(store.chunk(1, "a", (0,)), [])
        self.assert_error(Damaged, 4, store.chunk, 1, "a", (1,))

    def test_no_data_file(self):
        root = Root(2, 0, ((1, (("a", LINE, (((0,), 0, 2), ((1,), 6, 0))),)),))
        disk = disk_of({"root": encode_root(root)})
        store = Store(disk)
        self.assert_error(Damaged, 0, store.chunk, 1, "a", (0,))
        self.assert_error(Damaged, 6, store.chunk, 1, "a", (1,))
        self.assert_same([store.put({"a": (LINE, {(0,): [1, 2]})}), store.chunk(2, "a", (0,))], [2, [1, 2]])
        self.assert_same(files_of(disk)["data.0"], record([1, 2]))

    def test_a_damaged_record_is_not_used_again(self):
        for change, before in ((lambda octets: octets[:4] + [6] + octets[5:], 11), (lambda octets: octets[:5], 5),
                               (lambda octets: octets[:3] + [0] + octets[4:], 11)):
            store = self.damaged(change)
            store.put(A1)
            self.assert_same(store.root().versions[1][1][0][2][0], ((0,), before, 2))
            self.assert_same([store.chunk(2, "a", (0,)), store.chunk(2, "a", (3,))], [[7, 8], [9]])
            self.assert_same(store.root().versions[1][1][0][2][1], ((3,), 6 if before == 11 else 11, 1))

    def test_records_may_stand_anywhere(self):
        root = Root(2, 7, ((1, (("a", LINE, (((0,), 9, 2), ((1,), 3, 2))), ("b", LINE, (((4,), 3, 2),)))),))
        store = Store(disk_of({"root": encode_root(root), "data.7": [1, 1, 1] + records([5, 6], [7, 8]) + [1]}))
        self.assert_same([store.chunk(1, "a", (0,)), store.chunk(1, "a", (1,)), store.chunk(1, "b", (4,))],
                         [[7, 8], [5, 6], [5, 6]])
