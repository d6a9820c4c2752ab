"""What tests of stores need."""

import random
import zlib

from manysides.disk import Disk
from manysides.errors import PowerLost
from manysides.shapes import Shape

LINE = Shape((("x", 0, 9, 2),), (("v", "int"),))
WIDE = Shape((("x", 0, 9, 5), ("y", -1, 1, 1)), (("v", "int"), ("t", "text")))


class LoggedDisk(Disk):
    """A disk that takes down its deeds."""

    def __init__(self):
        super().__init__()
        self.deeds = []

    def append(self, name, octets):
        super().append(name, octets)
        self.deeds.append(("append", name, list(octets)))

    def sync(self, name):
        super().sync(name)
        self.deeds.append(("sync", name))

    def rename(self, old, new):
        super().rename(old, new)
        self.deeds.append(("rename", old, new))

    def remove(self, name):
        super().remove(name)
        self.deeds.append(("remove", name))

    def sync_names(self):
        super().sync_names()
        self.deeds.append(("sync_names",))


def disk_of(files, disk=None):
    """Returns a disk with the files of a dict, of which all is sure."""
    disk = Disk() if disk is None else disk
    for name in files:
        disk.append(name, files[name])
        disk.sync(name)
    disk.sync_names()
    return disk


def files_of(disk):
    """Returns the dict of the names and the contents of a disk, in the order of the names."""
    return {name: disk.read(name, 0, disk.size(name)) for name in disk.names()}


def four(number):
    return list(number.to_bytes(4, "big"))


def record(octets):
    """Returns the octets of a record."""
    return four(zlib.adler32(bytes(octets))) + octets


def records(*rows):
    return [octet for octets in rows for octet in record(octets)]


def writing(octets):
    """Returns the list of the deeds that write a root with some octets."""
    return [("append", "root.new", octets), ("sync", "root.new"), ("rename", "root.new", "root"), ("sync_names",)]


def told(store):
    """Returns all that the versions of a store tell, as lists and tuples."""
    return [(number, [(name, store.shape(number, name).dims, store.shape(number, name).attrs,
                       [(chunk, store.chunk(number, name, chunk)) for chunk in store.chunks(number, name)])
                      for name in store.arrays(number)]) for number in store.versions()]


def some_choices(count, seed):
    """Returns a list of lists of choices: short ones, and others."""
    rolls = random.Random(seed)
    found = [[], [1], [2], [3], [4], [5], [6], [7], [8], [9], [99, 99, 1], [99, 5, 1, 5, 1, 5, 1]]
    for _ in range(count):
        found.append([rolls.choice((0, 1, 2, 3, 4, 5, 6, 7, 12, 33, 100, 1000)) for _ in range(rolls.randint(1, 12))])
    return found


def cut_off(make, act):
    """Returns a list of pairs, one for each deed of an action: the disk when the power is lost before that deed, and None.

    Last comes the pair of the disk behind all deeds and what the action returns. make() returns a disk and a thing,
    always the same ones; act(thing) performs the action.
    """
    found = []
    while True:
        disk, thing = make()
        disk.allow(len(found))
        try:
            result = act(thing)
        except PowerLost:
            found.append((disk, None))
        else:
            return found + [(disk, result)]
