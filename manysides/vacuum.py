"""Forgetting versions of a store, vacuum, and looking for damage (chapter 20)."""

from manysides.roots import Root
from manysides.store import SUM_LENGTH, data_file


def forget(store, versions):
    """Forgets the versions of a list, but for the latest one. Returns the list of those that were forgotten."""
    gone = [number for number in store.versions() if number in versions and number != store.latest()]
    if gone:
        root = store.root()
        left = [version for version in root.versions if version[0] not in gone]
        store.write_root(Root(root.upcoming, root.data, tuple(left)))
    return gone


def vacuum(store):
    """Copies what is used to a new data file. Returns the number of octets by which the data file became shorter."""
    root = store.root()
    old = store.data_name()
    before = store.data_size()
    offsets = copied_records(store, data_file(root.data + 1))
    store.write_root(Root(root.upcoming, root.data + 1, with_offsets(root.versions, offsets)))
    if store.disk.size(old) is not None:
        store.disk.remove(old)
        store.disk.sync_names()
    return before - store.data_size()


def copied_records(store, name):
    """Copies the records that are used to another file. Returns a dict of the records and their new offsets."""
    offsets = {}
    end = 0
    for offset, length in used(store):
        octets = store.standing_octets(offset, length)
        missing = SUM_LENGTH + length - len(octets)
        store.disk.append(name, octets + [0] * missing)
        offsets[(offset, length)] = end
        end += SUM_LENGTH + length
    if offsets:
        store.disk.sync(name)
    return offsets


def with_offsets(versions, offsets):
    """Returns the versions of a Root with the new offsets of a dict of records."""
    found = []
    for number, arrays in versions:
        told = []
        for name, shape, chunks in arrays:
            moved = [(chunk, offsets[(offset, length)], length) for chunk, offset, length in chunks]
            told.append((name, shape, tuple(moved)))
        found.append((number, tuple(told)))
    return tuple(found)


def users_of_records(store):
    """Returns a dict of the records that are used and the lists of the tuples (version, name, chunk) that use them."""
    users = {}
    for number, arrays in store.root().versions:
        for name, shape, chunks in arrays:
            for chunk, offset, length in chunks:
                users.setdefault((offset, length), []).append((number, name, chunk))
    return users


def used(store):
    """Returns the ascending list of the tuples (offset, length) of all records that are used, each once."""
    return sorted(users_of_records(store))


def damage(store):
    """Returns the ascending list of the tuples (offset, users) of the damaged records."""
    users = users_of_records(store)
    return [(offset, tuple(users[(offset, length)])) for offset, length in sorted(users)
            if store.sound_octets(offset, length) is None]
