"""Points 19.5 and 20.3: what of a store remains when the power is lost."""

from manysides.disk import Disk
from manysides.errors import PowerLost
from manysides.store import Store
from manysides.vacuum import forget, vacuum
from tests.helpers import Case
from tests.stores import LINE, WIDE, cut_off, disk_of, files_of, some_choices, told

VERSIONS = [
    {"a": (LINE, {(0,): [7, 8], (3,): [9]})},
    {"a": (LINE, {(0,): [7, 8], (3,): [1, 2, 3]}), "b": (WIDE, {(1, 2): [5]})},
    {},
    {"a": (LINE, {(0,): [7, 8]}), "b": (WIDE, {(1, 2): [5], (0, 0): [6], (0, 1): []})},
]


def store_with(count):
    """Returns a disk and a store on it in which the first ones of VERSIONS were put."""
    disk = Disk()
    store = Store(disk)
    for arrays in VERSIONS[:count]:
        store.put(arrays)
    return disk, store


def plan_for(count):
    """Returns what a store tells that has the first ones of VERSIONS."""
    return told(store_with(count)[1])


class PowerTest(Case):
    def assert_remains(self, disk, wanted):
        """Whatever remains, the store tells one of the things that are wanted; returns which ones were told."""
        seen = []
        for choices in some_choices(60, 3):
            left = disk.lose(choices)
            before = told(Store(left))
            self.assertIn(before, wanted)
            seen.append(wanted.index(before))
            self.assert_same(sorted(left.names()), [name for name in left.names() if name in (
                "root", f"data.{Store(left).root().data}")])
            # It is sure, too, and it can be used further.
            self.assert_same(told(Store(left.lose([]))), before)
            number = Store(left).put(VERSIONS[1])
            self.assert_same(told(Store(left.lose([])))[:-1], before)
            self.assert_same(Store(left.lose([])).chunk(number, "a", (3,)), [1, 2, 3])
        return set(seen)

    def test_putting(self):
        for count in range(len(VERSIONS)):
            wanted = [plan_for(count), plan_for(count + 1)]
            pairs = cut_off(lambda: store_with(count), lambda store: store.put(VERSIONS[count]))
            for disk, number in pairs[:-1]:
                self.assertIsNone(number)
            seen = [self.assert_remains(disk, wanted) for disk, _ in pairs[:-1]]
            self.assertEqual(set.union(*seen), {0, 1})
            self.assertEqual(seen[0], {0})
            disk, number = pairs[-1]
            self.assert_same(number, count + 1)
            self.assertEqual(self.assert_remains(disk, wanted), {1})

    def test_the_number_of_the_deeds_before_the_power_is_lost(self):
        # The third version has no arrays: so the fourth one uses no record again.
        for count, deeds in enumerate((7, 7, 4, 9)):
            pairs = cut_off(lambda: store_with(count), lambda store: store.put(VERSIONS[count]))
            self.assert_same(len(pairs), deeds + 1)

    def test_the_new_version_is_there_only_with_the_last_deeds(self):
        pairs = cut_off(lambda: store_with(1), lambda store: store.put(VERSIONS[1]))
        for disk, _ in pairs[:-2]:
            for choices in some_choices(60, 4):
                self.assert_same(told(Store(disk.lose(choices))), plan_for(1))
        # Only the names were not synced: the renaming may remain or not.
        disk, _ = pairs[-2]
        self.assert_same(told(Store(disk.lose([]))), plan_for(1))
        self.assert_same(told(Store(disk.lose([2]))), plan_for(2))

    def test_opening(self):
        pairs = cut_off(lambda: store_with(3), lambda store: store.put(VERSIONS[3]))
        for disk, _ in pairs:
            for choices in some_choices(20, 5):
                files = files_of(disk.lose(choices))
                opened = cut_off(lambda: (disk_of(files),) * 2, Store)
                for other, _ in opened:
                    for further in ([], [1], [2], [3, 1, 1]):
                        left = Store(other.lose(further))
                        self.assertIn(told(left), [plan_for(3), plan_for(4)])
                        self.assert_same(told(left), told(Store(disk_of(files))))

    def test_one_loss_behind_the_other(self):
        disk, _ = store_with(1)
        wanted = plan_for(1)
        for turn, choices in enumerate(some_choices(80, 6)):
            disk.allow(turn % 9)
            try:
                Store(disk).put(VERSIONS[turn % 4])
            except PowerLost:
                pass
            disk = disk.lose(choices)
            versions = told(Store(disk))
            self.assert_same(versions[:len(wanted)], wanted)
            self.assertIn(len(versions) - len(wanted), (0, 1))
            wanted = versions
        self.assertGreater(len(wanted), 5)

    def test_forgetting(self):
        for gone in ([1], [2], [1, 3], [1, 2, 3, 4]):
            before = plan_for(4)
            behind = [version for version in before if version[0] not in gone or version[0] == 4]
            pairs = cut_off(lambda: store_with(4), lambda store: forget(store, gone))
            self.assert_same(len(pairs), 5)
            seen = [self.assert_remains(disk, [before, behind]) for disk, _ in pairs]
            self.assertEqual(set.union(*seen[:-1]), {0, 1})
            self.assertEqual(seen[-1], {1})

    def test_vacuum(self):
        def forgotten():
            disk, store = store_with(4)
            forget(store, [1, 3])
            return disk, store

        for make, count in ((forgotten, 14), (lambda: store_with(4), 15), (lambda: store_with(1), 9), (lambda: store_with(0), 4)):
            wanted = told(make()[1])
            pairs = cut_off(make, vacuum)
            self.assert_same(len(pairs), count + 1)
            for disk, _ in pairs:
                self.assertEqual(self.assert_remains(disk, [wanted]), {0})
            for choices in some_choices(40, 7):
                left = pairs[-1][0].lose(choices)
                self.assertEqual(Store(left).root().data, 1)
                self.assertNotIn("data.0", left.names())

    def test_forgetting_and_vacuum_one_behind_the_other(self):
        disk, _ = store_with(4)
        wanted = plan_for(4)
        for turn, choices in enumerate(some_choices(90, 8)):
            disk.allow(turn % 14)
            try:
                if turn % 3 == 0:
                    vacuum(Store(disk))
                elif turn % 3 == 1:
                    forget(Store(disk), [turn % 5])
                else:
                    Store(disk).put(VERSIONS[turn % 4])
            except PowerLost:
                pass
            disk = disk.lose(choices)
            versions = told(Store(disk))
            fresh = [version for version in versions if version[0] > wanted[-1][0]]
            self.assertLessEqual(len(fresh), 1 if turn % 3 == 2 else 0)
            kept = [version for version in wanted if version[0] != turn % 5 or turn % 3 != 1]
            self.assertIn(versions, [wanted + fresh, kept + fresh])
            wanted = versions
