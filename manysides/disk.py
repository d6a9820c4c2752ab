"""A disk that may lose its power (chapter 17)."""

from manysides.errors import PowerLost


class Content:
    """The content of a file: octets, of which the first ones are sure."""

    def __init__(self, octets):
        """All octets are sure at first."""
        self.octets = octets
        self.sure = len(octets)


class Choices:
    """Choices that are used one after the other, and 0 when there are no more."""

    def __init__(self, choices):
        self.rest = list(reversed(choices))

    def next_below(self, bound):
        """Returns the next choice modulo a bound."""
        return self.rest.pop() % bound if self.rest else 0


class Disk:
    """An empty disk. Its files have names and contents."""

    def __init__(self):
        self._contents = {}
        # The names that are sure, and the changes of names since then: tuples of the name that goes, the name that
        # comes and its content, with None where there is none.
        self._sure_contents = {}
        self._changes = []
        self._allowed = None
        self._done = 0

    def names(self):
        """Returns the ascending list of the names of the files."""
        return sorted(self._contents)

    def size(self, name):
        """Returns the number of octets of a file, or None if there is none."""
        return len(self._contents[name].octets) if name in self._contents else None

    def read(self, name, start, count):
        """Returns so many octets of a file from a place on, or fewer at the end."""
        return self._contents[name].octets[start:start + count]

    def append(self, name, octets):
        """Adds octets to the content of a file, which is made if it is not there."""
        self._begin_deed()
        if name not in self._contents:
            self._change(None, name, Content([]))
        self._contents[name].octets.extend(list(octets))

    def sync(self, name):
        """Makes all octets of a file sure."""
        self._begin_deed()
        content = self._contents[name]
        content.sure = len(content.octets)

    def rename(self, old, new):
        """Gives a file another name; a file that has that name is gone."""
        self._begin_deed()
        self._change(old, new, self._contents[old])

    def remove(self, name):
        """Takes a file away."""
        self._begin_deed()
        self._change(name, None, None)

    def sync_names(self):
        """Makes all changes of names sure."""
        self._begin_deed()
        self._sure_contents = {name: self._contents[name] for name in self._contents}
        self._changes = []

    def allow(self, count):
        """Allows so many deeds from now on, or any number, if it is None."""
        self._allowed = count

    def done(self):
        """Returns the number of all deeds that were done."""
        return self._done

    def lose(self, choices):
        """Returns the disk that is left when the power is lost now. This disk does not change."""
        left = Choices(choices)
        contents = {name: self._sure_contents[name] for name in self._sure_contents}
        for change in self._changes[:left.next_below(len(self._changes) + 1)]:
            change_names(contents, change)
        disk = Disk()
        for name in sorted(contents):
            disk._hold(name, octets_left(contents[name], left))
        return disk

    def _begin_deed(self):
        """Counts a deed. Raises PowerLost if it is not allowed."""
        if self._allowed == 0:
            raise PowerLost(self._done)
        if self._allowed is not None:
            self._allowed -= 1
        self._done += 1

    def _change(self, old, new, content):
        """Changes the names, which is not sure yet."""
        self._changes.append((old, new, content))
        change_names(self._contents, (old, new, content))

    def _hold(self, name, octets):
        """Holds a file of which all is sure."""
        self._contents[name] = Content(octets)
        self._sure_contents[name] = self._contents[name]


def change_names(contents, change):
    """Performs a change of names on a dict of names and contents."""
    old, new, content = change
    if old is not None:
        del contents[old]
    if new is not None:
        contents[new] = content


def octets_left(content, choices):
    """Returns the octets of a content that are left when the power is lost, by the next choices."""
    sure = content.octets[:content.sure]
    unsure = content.octets[content.sure:]
    rest = unsure[:choices.next_below(len(unsure) + 1)]
    if rest and choices.next_below(3) == 1:
        rest[-1] = (rest[-1] + 1) % 256
    return sure + rest
