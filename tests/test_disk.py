"""Points 17.1 to 17.3: the disk."""

import itertools

from manysides.disk import Disk
from manysides.errors import PowerLost
from tests.helpers import Case


def disk_with(*files):
    """Returns a disk with some files, of which all is sure."""
    disk = Disk()
    for name, octets in files:
        disk.append(name, octets)
        disk.sync(name)
    disk.sync_names()
    return disk


def held(disk):
    """Returns the list of the names and the contents of a disk."""
    return [(name, disk.read(name, 0, 10 ** 6)) for name in disk.names()]


class DeedsTest(Case):
    def test_example(self):
        disk = Disk()
        disk.append("a", [1, 2])
        disk.sync("a")
        disk.append("a", [3, 4])
        self.assert_same([disk.lose([]).names(), disk.lose([1]).read("a", 0, 9), disk.lose([1, 2, 1]).read("a", 0, 9),
                          disk.done()], [[], [1, 2], [1, 2, 3, 5], 3])

    def test_an_empty_disk(self):
        disk = Disk()
        self.assert_same([disk.names(), disk.size("a"), disk.done()], [[], None, 0])

    def test_append(self):
        disk = Disk()
        self.assertIsNone(disk.append("b", [1, 2]))
        disk.append("a", [])
        disk.append("b", [255, 0])
        disk.append("b", [])
        self.assert_same(held(disk), [("a", []), ("b", [1, 2, 255, 0])])
        self.assert_same([disk.size("a"), disk.size("b"), disk.size("c"), disk.done()], [0, 4, None, 4])

    def test_reading(self):
        disk = disk_with(("a", [5, 6, 7, 8]))
        for start, count, wanted in ((0, 4, [5, 6, 7, 8]), (0, 9, [5, 6, 7, 8]), (1, 2, [6, 7]), (3, 1, [8]), (3, 2, [8]),
                                     (4, 1, []), (9, 1, []), (2, 0, []), (0, 0, [])):
            self.assert_same(disk.read("a", start, count), wanted)
        self.assert_same(disk.done(), 3)

    def test_rename(self):
        disk = disk_with(("a", [1]), ("b", [2]))
        self.assertIsNone(disk.rename("a", "c"))
        self.assert_same(held(disk), [("b", [2]), ("c", [1])])
        disk.rename("c", "b")
        self.assert_same(held(disk), [("b", [1])])
        disk.append("b", [3])
        disk.append("a", [9])
        self.assert_same(held(disk), [("a", [9]), ("b", [1, 3])])
        disk.rename("a", "a")
        self.assert_same(held(disk), [("a", [9]), ("b", [1, 3])])

    def test_remove_and_make_again(self):
        disk = disk_with(("a", [1]), ("b", [2]))
        self.assertIsNone(disk.remove("a"))
        self.assert_same([held(disk), disk.size("a")], [[("b", [2])], None])
        disk.append("a", [7])
        self.assert_same(held(disk), [("a", [7]), ("b", [2])])

    def test_each_deed_counts_once(self):
        disk = Disk()
        for count, deed in enumerate((lambda: disk.append("a", [1]), lambda: disk.append("a", []), lambda: disk.sync("a"),
                                      lambda: disk.rename("a", "b"), lambda: disk.sync_names(), lambda: disk.sync_names(),
                                      lambda: disk.remove("b"), lambda: disk.append("a", []))):
            self.assert_same(disk.done(), count)
            self.assertIsNone(deed())
        disk.names(), disk.size("a"), disk.read("a", 0, 1), disk.lose([1])
        self.assert_same(disk.done(), 8)

    def test_copies(self):
        disk = Disk()
        octets = [1, 2]
        disk.append("a", octets)
        octets.append(3)
        disk.read("a", 0, 9).append(4)
        disk.names().append("b")
        self.assert_same(held(disk), [("a", [1, 2])])
        disk.append("a", octets)
        self.assert_same([octets, held(disk)], [[1, 2, 3], [("a", [1, 2, 1, 2, 3])]])


class AllowTest(Case):
    def test_the_deed_behind_those_that_are_allowed(self):
        for allowed in range(4):
            disk = disk_with(("a", [1]), ("b", [2]))
            self.assertIsNone(disk.allow(allowed))
            for _ in range(allowed):
                disk.append("a", [5])
            before = held(disk)
            for deed in (lambda: disk.append("a", [9]), lambda: disk.append("z", [9]), lambda: disk.sync("a"),
                         lambda: disk.rename("a", "b"), lambda: disk.remove("a"), lambda: disk.sync_names()):
                self.assert_error(PowerLost, 5 + allowed, deed)
            self.assert_same([held(disk), disk.done()], [before, 5 + allowed])
            self.assert_same(disk.lose([0, 0, 0]).read("a", 0, 9), [1])

    def test_allowing_again(self):
        disk = Disk()
        disk.allow(1)
        disk.append("a", [1])
        self.assert_error(PowerLost, 1, disk.sync, "a")
        disk.allow(2)
        disk.sync("a")
        disk.sync_names()
        self.assert_error(PowerLost, 3, disk.remove, "a")
        disk.allow(None)
        for _ in range(20):
            disk.append("a", [1])
        self.assert_same([disk.done(), disk.size("a")], [23, 21])
        disk.allow(0)
        self.assert_error(PowerLost, 23, disk.append, "a", [1])
        disk.allow(5)
        disk.allow(1)
        disk.append("a", [1])
        self.assert_error(PowerLost, 24, disk.append, "a", [1])


class LoseTest(Case):
    def test_octets_that_remain(self):
        disk = disk_with(("a", [1, 2]))
        disk.append("a", [10, 20])
        disk.append("a", [255])
        for choices, wanted in (([], []), ([0], []), ([0, 0], []), ([0, 1], [10]), ([0, 2], [10, 20]), ([0, 3], [10, 20, 255]),
                                ([0, 4], []), ([0, 5], [10]), ([7, 4003], [10, 20, 255]), ([0, 1, 0], [10]), ([0, 1, 1], [11]),
                                ([0, 1, 2], [10]), ([0, 2, 3], [10, 20]), ([0, 2, 4], [10, 21]), ([0, 3, 1], [10, 20, 0]),
                                ([0, 3, 300001], [10, 20, 0]), ([0, 0, 1], []), ([1, 1, 1], [11])):
            self.assert_same(self.assert_unchanged(disk.lose, choices).read("a", 0, 9), [1, 2] + wanted)

    def test_changes_of_names_that_remain(self):
        disk = disk_with(("a", [1]), ("b", [2]))
        disk.rename("a", "c")
        disk.append("d", [])
        disk.rename("c", "b")
        disk.remove("d")
        disk.append("a", [])
        wanted = [[("a", [1]), ("b", [2])], [("b", [2]), ("c", [1])], [("b", [2]), ("c", [1]), ("d", [])],
                  [("b", [1]), ("d", [])], [("b", [1])], [("a", []), ("b", [1])]]
        for choice in range(15):
            self.assert_same(held(disk.lose([choice])), wanted[choice % 6])

    def test_a_choice_is_used_for_each_name_and_for_each_one_of_which_some_remain(self):
        disk = disk_with(("c", [3]), ("b", [2]), ("a", [1]))
        for name in ("c", "a"):
            disk.append(name, [50, 60])
        for choices, wanted in (([0, 1, 1, 0, 2, 1], ([1, 51], [2], [3, 50, 61])), ([0, 0, 0, 1], ([1], [2], [3, 50])),
                                ([0, 0, 5, 2, 1], ([1], [2], [3, 50, 61])), ([0, 2, 0, 1, 1, 4], ([1, 50, 60], [2], [3, 51])),
                                ([0, 1], ([1, 50], [2], [3])), ([0, 2, 2, 2], ([1, 50, 60], [2], [3])),
                                ([0, 2, 2, 2, 2, 2, 9, 9], ([1, 50, 60], [2], [3, 50, 60]))):
            left = disk.lose(choices)
            self.assert_same(held(left), list(zip("abc", wanted)))

    def test_what_is_sure(self):
        disk = Disk()
        disk.append("a", [1])
        disk.sync_names()
        self.assert_same(held(disk.lose([])), [("a", [])])
        disk.sync("a")
        self.assert_same(held(disk.lose([])), [("a", [1])])
        disk.append("a", [2])
        disk.rename("a", "b")
        disk.sync("b")
        self.assert_same([held(disk.lose([0])), held(disk.lose([1]))], [[("a", [1, 2])], [("b", [1, 2])]])
        disk.append("b", [3])
        self.assert_same([held(disk.lose([0, 1])), held(disk.lose([1, 1, 1]))], [[("a", [1, 2, 3])], [("b", [1, 2, 4])]])
        disk.remove("b")
        self.assert_same([held(disk.lose([0, 0])), held(disk.lose([2]))], [[("a", [1, 2])], []])
        disk.append("b", [9])
        disk.sync_names()
        self.assert_same([held(disk.lose([])), held(disk.lose([1, 1]))], [[("b", [])], [("b", [9])]])

    def test_contents_are_told_from_names(self):
        disk = disk_with(("a", [1, 2]))
        disk.remove("a")
        disk.append("a", [7])
        disk.sync("a")
        self.assert_same([held(disk.lose([choice])) for choice in range(3)], [[("a", [1, 2])], [], [("a", [7])]])
        disk = disk_with(("a", [1]), ("b", [2]))
        disk.rename("a", "b")
        disk.append("b", [3])
        self.assert_same(held(disk.lose([0, 1])), [("a", [1, 3]), ("b", [2])])
        self.assert_same(held(disk.lose([1, 1])), [("b", [1, 3])])

    def test_the_disk_that_is_left(self):
        disk = Disk()
        disk.append("a", [1, 2])
        disk.allow(0)
        left = disk.lose([1, 2, 0])
        self.assert_same([held(left), left.done()], [[("a", [1, 2])], 0])
        self.assert_same(held(left.lose([])), [("a", [1, 2])])
        left.append("a", [3])
        left.rename("a", "b")
        self.assert_same([held(left), held(left.lose([])), left.done()], [[("b", [1, 2, 3])], [("a", [1, 2])], 2])
        self.assert_same([held(disk), disk.done()], [[("a", [1, 2])], 1])
        self.assert_error(PowerLost, 1, disk.sync, "a")

    def test_losing_changes_nothing(self):
        disk = disk_with(("a", [1]))
        disk.append("a", [2])
        disk.rename("a", "b")
        first = [held(disk.lose(list(choices))) for choices in itertools.product(range(3), repeat=3)]
        self.assert_same([held(disk.lose(list(choices))) for choices in itertools.product(range(3), repeat=3)], first)
        self.assert_same(held(disk), [("b", [1, 2])])
        disk.sync("b")
        self.assert_same(held(disk.lose([1])), [("b", [1, 2])])
