"""Points 20.1 to 20.4: forgetting, vacuum, and looking for damage."""

from manysides.disk import Disk
from manysides.errors import Damaged, InvalidVersion
from manysides.roots import Root, encode_root
from manysides.shapes import Shape
from manysides.store import Store
from manysides.vacuum import damage, forget, used, vacuum
from tests.helpers import Case
from tests.stores import LINE, WIDE, LoggedDisk, disk_of, files_of, record, records, told, writing

# The records of these versions are [7, 8] at 0, [9] at 6, [1, 2, 3] at 11, [5] at 18, and [4] at 23.
VERSIONS = [
    {"a": (LINE, {(0,): [7, 8], (3,): [9]})},
    {"a": (LINE, {(0,): [7, 8], (3,): [1, 2, 3]}), "b": (WIDE, {(1, 2): [5]})},
    {"a": (LINE, {(3,): [1, 2, 3]}), "b": (WIDE, {(0, 0): [4], (1, 2): [5]})},
]


def store_on(disk):
    """Returns a store on an empty disk, with the VERSIONS."""
    store = Store(disk)
    for arrays in VERSIONS:
        store.put(arrays)
    return store


def disk_with(data, root):
    """Returns a disk with the octets of a data file, or None for none, and a root."""
    files = {"root": encode_root(root)}
    if data is not None:
        files[f"data.{root.data}"] = data
    return disk_of(files, LoggedDisk())


class ForgetTest(Case):
    def test_example(self):
        line = Shape((("x", 0, 9, 5),), (("v", "int"),))
        store = Store(Disk())
        self.assert_same([store.put({"a": (line, {(0,): [7, 8]})}), store.put({"a": (line, {(0,): [9]})}), used(store)],
                         [1, 2, [(0, 2), (6, 1)]])
        self.assert_same([forget(store, [1, 2, 5]), vacuum(store), used(store), store.chunk(2, "a", (0,)), damage(store)],
                         [[1], 6, [(0, 1)], [9], []])

    def test_which_ones_are_forgotten(self):
        for gone, wanted in (([], []), ([1], [1]), ([2], [2]), ([2, 1], [1, 2]), ([3], []), ([3, 2], [2]), ([1, 2, 3], [1, 2]),
                             ([0, 4, -1, 99], []), ([5, 2, 2, 0], [2])):
            disk = Disk()
            store = store_on(disk)
            before = told(store)
            self.assert_same(self.assert_unchanged(forget, store, gone)[:], wanted)
            behind = [version for version in before if version[0] not in wanted]
            self.assert_same([told(store), store.versions(), store.latest()], [behind, [row[0] for row in behind], 3])
            self.assert_same(told(Store(disk.lose([]))), behind)
            for number in wanted:
                self.assert_error(InvalidVersion, number, store.arrays, number)

    def test_when_a_root_is_written(self):
        disk = LoggedDisk()
        store = store_on(disk)
        root, files = store.root(), files_of(disk)
        disk.deeds.clear()
        for gone in ([], [3], [0, 3, 9]):
            self.assert_same(forget(store, gone), [])
            self.assert_same([disk.deeds, files_of(disk)], [[], files])
            self.assertEqual(store.root(), root)
        self.assert_same(forget(store, [2, 3]), [2])
        behind = Root(4, 0, (root.versions[0], root.versions[2]))
        self.assertEqual(store.root(), behind)
        self.assert_same(disk.deeds, writing(encode_root(behind)))
        self.assert_same(files_of(disk), {"data.0": files["data.0"], "root": encode_root(behind)})
        disk.deeds.clear()
        self.assert_same([forget(store, [2]), disk.deeds], [[], []])

    def test_numbers_are_not_used_again(self):
        disk = Disk()
        store = store_on(disk)
        forget(store, [1, 2])
        self.assert_same([store.put({}), forget(store, [1, 3, 4]), store.put({}), store.versions()], [4, [3], 5, [4, 5]])
        self.assert_same(Store(disk.lose([])).put({}), 6)

    def test_nothing_to_forget(self):
        disk = Disk()
        self.assert_same([forget(Store(disk), [0, 1]), disk.done()], [[], 0])


class UsedTest(Case):
    def test_each_record_once(self):
        disk = Disk()
        store = store_on(disk)
        self.assert_same(used(store), [(0, 2), (6, 1), (11, 3), (18, 1), (23, 1)])
        self.assert_same(disk.read("data.0", 0, 99), records([7, 8], [9], [1, 2, 3], [5], [4]))
        forget(store, [1])
        self.assert_same(used(store), [(0, 2), (11, 3), (18, 1), (23, 1)])
        forget(store, [2])
        self.assert_same(used(store), [(11, 3), (18, 1), (23, 1)])
        used(store).clear()
        store.put({})
        forget(store, [3])
        self.assert_same([used(store), used(Store(Disk()))], [[], []])

    def test_ascending_by_offsets(self):
        rows = (("a", LINE, (((0,), 30, 1), ((1,), 200, 0))), ("b", LINE, (((0,), 4, 7), ((3,), 30, 1), ((4,), 15, 300))))
        store = Store(disk_with(None, Root(3, 0, ((1, rows), (2, (("c", WIDE, (((0, 0), 100, 3), ((0, 1), 4, 7))),))))))
        self.assert_same(used(store), [(4, 7), (15, 300), (30, 1), (100, 3), (200, 0)])


class VacuumTest(Case):
    def test_with_records_that_are_used_no_more(self):
        disk = LoggedDisk()
        store = store_on(disk)
        forget(store, [1])
        wanted = told(store)
        disk.deeds.clear()
        self.assert_same(vacuum(store), 5)
        told_rows = ((2, (("a", LINE, (((0,), 0, 2), ((3,), 6, 3))), ("b", WIDE, (((1, 2), 13, 1),)))),
                     (3, (("a", LINE, (((3,), 6, 3),)), ("b", WIDE, (((0, 0), 18, 1), ((1, 2), 13, 1))))))
        root = Root(4, 1, told_rows)
        self.assertEqual(store.root(), root)
        rows = [[7, 8], [1, 2, 3], [5], [4]]
        self.assert_same(disk.deeds, [("append", "data.1", record(row)) for row in rows] + [("sync", "data.1")]
                         + writing(encode_root(root)) + [("remove", "data.0"), ("sync_names",)])
        self.assert_same(files_of(disk), {"data.1": records(*rows), "root": encode_root(root)})
        self.assert_same([told(store), told(Store(disk.lose([]))), damage(store)], [wanted, wanted, []])

    def test_with_all_records_used(self):
        disk = Disk()
        store = store_on(disk)
        before, wanted = files_of(disk)["data.0"], told(store)
        done = disk.done()
        self.assert_same([vacuum(store), told(store), disk.done() - done], [0, wanted, 12])
        self.assert_same(files_of(disk), {"data.1": before, "root": encode_root(store.root())})
        self.assert_same([vacuum(store), disk.names(), store.root().data], [0, ["data.2", "root"], 2])

    def test_without_records(self):
        disk = LoggedDisk()
        store = store_on(disk)
        store.put({"c": (LINE, {})})
        forget(store, [1, 2, 3])
        disk.deeds.clear()
        self.assert_same(vacuum(store), 28)
        root = Root(5, 1, ((4, (("c", LINE, ()),)),))
        self.assert_same(disk.deeds, writing(encode_root(root)) + [("remove", "data.0"), ("sync_names",)])
        self.assert_same(files_of(disk), {"root": encode_root(root)})
        disk.deeds.clear()
        self.assert_same([vacuum(store), disk.deeds], [0, writing(encode_root(Root(5, 2, root.versions)))])

    def test_without_a_data_file(self):
        disk = LoggedDisk()
        store = Store(disk)
        self.assert_same([vacuum(store), disk.deeds], [0, writing(encode_root(Root(1, 1, ())))])
        self.assert_same([store.put(VERSIONS[0]), disk.names(), vacuum(store)], [1, ["data.1", "root"], 0])
        self.assert_same([disk.names(), store.chunk(1, "a", (0,))], [["data.2", "root"], [7, 8]])

    def test_putting_behind_a_vacuum(self):
        disk = Disk()
        store = store_on(disk)
        forget(store, [1, 2])
        self.assert_same(vacuum(store), 11)
        store.put({"a": (LINE, {(0,): [7, 8], (3,): [1, 2, 3]}), "b": (WIDE, {(1, 2): [5]})})
        self.assert_same(files_of(disk)["data.1"], records([1, 2, 3], [5], [4], [7, 8]))
        self.assert_same(told(store)[-1][1][0][3], [((0,), [7, 8]), ((3,), [1, 2, 3])])

    def test_octets_in_the_data_file_that_no_record_has(self):
        root = Root(2, 4, ((1, (("a", LINE, (((0,), 9, 2), ((1,), 3, 2))),)),))
        disk = disk_with([1, 1, 1] + records([5, 6], [7, 8]) + [1, 2], root)
        store = Store(disk)
        self.assert_same([vacuum(store), told(store)[0][1][0][3]], [5, [((0,), [7, 8]), ((1,), [5, 6])]])
        self.assert_same(files_of(disk)["data.5"], records([5, 6], [7, 8]))
        self.assert_same(store.root().versions[0][1][0][2], (((0,), 6, 2), ((1,), 0, 2)))

    def test_damaged_records_stay_damaged(self):
        broken = records([7, 8], [9])
        broken[4] = 6
        root = Root(2, 0, ((1, (("a", LINE, (((0,), 0, 2), ((1,), 6, 1))),)),))
        disk = disk_with(broken, root)
        store = Store(disk)
        self.assert_same([damage(store), vacuum(store)], [[(0, ((1, "a", (0,)),))], 0])
        self.assert_same(files_of(disk)["data.1"], broken)
        self.assert_same([damage(store), store.chunk(1, "a", (1,))], [[(0, ((1, "a", (0,)),))], [9]])

    def test_a_data_file_that_was_cut_off(self):
        root = Root(2, 0, ((1, (("a", LINE, (((0,), 0, 2), ((1,), 6, 3), ((2,), 13, 1))),)),))
        whole = records([7, 8], [9, 9, 9], [5])
        for count in range(18):
            disk = disk_with(whole[:count], root)
            store = Store(disk)
            self.assert_same(vacuum(store), count - 18)
            self.assert_same(files_of(disk)["data.1"], whole[:count] + [0] * (18 - count))
            self.assert_error(Damaged, 13, store.chunk, 1, "a", (2,))
            self.assert_same([row[0] for row in damage(store)], [0, 6, 13][(count >= 6) + (count >= 13):])
        disk = disk_with(None, root)
        store = Store(disk)
        disk.deeds.clear()
        self.assert_same([vacuum(store), files_of(disk)["data.1"]], [-18, [0] * 18])
        self.assert_same(disk.deeds, [("append", "data.1", [0] * length) for length in (6, 7, 5)] + [("sync", "data.1")]
                         + writing(encode_root(store.root())))

    def test_zeros_that_happen_to_get_a_right_sum(self):
        root = Root(2, 0, ((1, (("a", LINE, (((0,), 0, 3),)),)),))
        store = Store(disk_with(record([9, 0, 0])[:6], root))
        self.assert_same([damage(store), vacuum(store), store.chunk(1, "a", (0,))], [[(0, ((1, "a", (0,)),))], -1, [9, 0, 0]])
        self.assert_same(damage(store), [])


class DamageTest(Case):
    def test_none(self):
        self.assert_same([damage(store_on(Disk())), damage(Store(Disk()))], [[], []])

    def test_with_its_users(self):
        root = store_on(Disk()).root()
        whole = records([7, 8], [9], [1, 2, 3], [5], [4])
        users = {0: ((1, "a", (0,)), (2, "a", (0,))), 6: ((1, "a", (3,)),), 11: ((2, "a", (3,)), (3, "a", (3,))),
                 18: ((2, "b", (1, 2)), (3, "b", (1, 2))), 23: ((3, "b", (0, 0)),)}
        for at in range(28):
            offset = max([start for start in users if start <= at])
            store = Store(disk_with(whole[:at] + [(whole[at] + 1) % 256] + whole[at + 1:], root))
            self.assert_same(damage(store), [(offset, users[offset])])
            disk = disk_with(whole[:at], root)
            disk.deeds.clear()
            store = Store(disk)
            self.assert_same(damage(store), [(start, users[start]) for start in users if start >= offset])
            self.assert_same(disk.deeds, [])
        forget(store, [2, 3])
        self.assert_same(damage(store), [(23, ((3, "b", (0, 0)),))])

    def test_several_users_in_a_version(self):
        rows = (("a", LINE, (((0,), 5, 1), ((1,), 0, 1), ((2,), 5, 1))), ("b", WIDE, (((0, 1), 5, 1), ((1, 0), 5, 1))))
        store = Store(disk_with([0] * 10, Root(8, 0, ((3, rows), (7, rows[1:])))))
        self.assert_same(damage(store), [
            (0, ((3, "a", (1,)),)),
            (5, ((3, "a", (0,)), (3, "a", (2,)), (3, "b", (0, 1)), (3, "b", (1, 0)), (7, "b", (0, 1)), (7, "b", (1, 0))))])
        store = Store(disk_with(None, Root(8, 0, ((3, rows),))))
        self.assert_same([offset for offset, users in damage(store)], [0, 5])
