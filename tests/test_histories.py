"""Points 24.3 to 24.6: histories of many sessions, and lost power."""

import random

from manysides.arrays import Array, check_array
from manysides.database import Database
from manysides.disk import Disk
from manysides.errors import ManysidesError, PowerLost
from manysides.parsing import parse_query
from manysides.printing import print_query
from manysides.queries import operators
from manysides.shapes import Shape
from manysides.store import Store
from manysides.teller import tell
from tests.helpers import Case, shown
from tests.stores import cut_off, disk_of, files_of, some_choices

SHAPES = (Shape((("x", 0, 5, 2),), (("v", "int"),)), Shape((("x", -2, 3, 3),), (("v", "int"),)))
NAMES = ("a", "b", "c")
MOST = ("group", (), (("v", "greatest", ("attr", "v")),))
QUERIES = [("scan", "a"), ("scan", "b"), ("keep", ("scan", "c"), ("gt", ("attr", "v"), ("dim", "x"))), ("either", ("scan", "a"), ("scan", "b")),
           ("join", ("scan", "b"), ("named", ("scan", "c"), (("v", "u"),))), ("group", ("scan", "a"), *MOST[1:]),
           ("with", ("scan", "b"), (("v", ("add", ("attr", "v"), ("value", "int", 1))),)), ("only", ("scan", "a"), ("u",)),
           ("shift", ("scan", "c"), (("x", 1),))]
METHODS = ("names", "shape", "ask", "ask", "ask_text", "create", "drop", "put", "put", "put", "take", "keep")


def plain(found):
    """Returns what tells an answer, whatever the order of its cells is."""
    return (shown(found.shape), sorted(found.cells.items())) if isinstance(found, Array) else shown(found)


def scans_of(query):
    return [part[1] for part in operators(query) if part[0] == "scan"]


def performed(arrays, method, args):
    """Returns what a method returns for a session that sees the Arrays of a dict, or the name of its error; changes the dict."""
    try:
        if method == "names":
            return sorted(arrays)
        if method == "shape":
            return arrays[args[0]].shape if args[0] in arrays else None
        if method in ("ask", "ask_text"):
            return tell(args[0] if method == "ask" else parse_query(args[0]), arrays)
        if method == "keep":
            arrays[args[0]] = tell(args[1], arrays)
            return None
        if method == "create":
            is_new = args[0] not in arrays
            if is_new:
                arrays[args[0]] = Array(args[1], {})
            return is_new
        if args[0] not in arrays:
            return False
        array = arrays.pop(args[0])
        if method != "drop":
            arrays[args[0]] = array
        if method == "put":
            check_array(Array(array.shape, args[1]))
            arrays[args[0]] = Array(array.shape, {**array.cells, **args[1]})
        if method == "take":
            arrays[args[0]] = Array(array.shape, {place: array.cells[place] for place in array.cells if place not in args[1]})
        return True
    except ManysidesError as error:
        return (error.name, error.place)


def asked(d, session, method, args):
    """Returns what a method of a database returns, or the name of its error."""
    try:
        return getattr(d, method)(session, *args)
    except ManysidesError as error:
        return (error.name, error.place)


def some_call(rolls):
    method = rolls.choice(METHODS)
    name, query = rolls.choice(NAMES), rolls.choice(QUERIES)
    args = {"names": (), "ask": (query,), "ask_text": (print_query(query),), "create": (name, rolls.choice(SHAPES)), "keep": (name, query),
            "put": (name, {(rolls.randint(-1, 4),): (rolls.randint(-3, 9),) for _ in range(rolls.randint(0, 2))}),
            "take": (name, [(rolls.randint(-1, 4),) for _ in range(rolls.randint(0, 2))])}
    return method, args.get(method, (name,))


class Model:
    """What a session sees, has asked, touched and changed, kept in the plainest way."""

    def __init__(self, start, arrays):
        self.start, self.arrays, self.calls = start, dict(arrays), []
        self.touched, self.changed, self.has_touched_names = set(), set(), False

    def call(self, method, args):
        found = performed(self.arrays, method, args)
        self.calls.append((method, args, found))
        self.has_touched_names = self.has_touched_names or method == "names"
        if method in ("ask", "ask_text", "keep"):
            query = {"ask": args[0], "keep": args[-1]}.get(method) or parse_query(args[0])
            self.touched.update(scans_of(query))
        if method in ("shape", "create", "drop", "put", "take") or (method == "keep" and found is None):
            self.touched.add(args[0])
        if found is True or (method == "keep" and found is None):
            self.changed.add(args[0])
        return found


class HistoryTest(Case):
    def told(self, d):
        """Returns what tells all arrays that a new session sees."""
        s = d.begin()
        arrays = {name: d.ask(s, ("scan", name)) for name in d.names(s)}
        d.abort(s)
        return self.shown_all(arrays)

    def shown_all(self, arrays):
        return [(name, plain(arrays[name])) for name in sorted(arrays)]

    def finished(self, d, number, model, states, commits):
        """Commits a session; returns True if it has made a version. The list of states has the arrays of each version."""
        clashes = [names for version, names, has_changed in commits
                   if version > model.start and (names & model.touched or (has_changed and model.has_touched_names))]
        found = d.commit(number)
        if not model.changed:
            self.assert_same(found, 0)
        elif clashes:
            self.assertIsNone(found)
        else:
            self.assert_same(found, len(states))
            before = states[-1]
            behind = {name: before[name] for name in before if name not in model.changed}
            behind.update({name: model.arrays[name] for name in model.changed if name in model.arrays})
            has_changed = any([name not in before or name not in behind for name in model.changed])
            commits.append((found, set(model.changed), has_changed))
            states.append(behind)
        return bool(found)

    def history(self, seed):
        """Performs a history; returns the numbers of committed, of refused and of all sessions."""
        rolls = random.Random(seed)
        disk = Disk()
        d = Database(disk, room=rolls.choice((0, 1, 16)))
        states, commits, models, order, counts = [{}], [], {}, [], [0, 0, 0]
        for _ in range(60):
            deed = rolls.random()
            if not models or (deed < 0.12 and len(models) < 4):
                models[d.begin()] = Model(len(states) - 1, states[-1])
                counts[2] += 1
                continue
            number = rolls.choice(sorted(models))
            if deed < 0.75:
                method, args = some_call(rolls)
                self.assert_same(plain(asked(d, number, method, args)), plain(models[number].call(method, args)))
            elif deed < 0.95:
                model = models.pop(number)
                if self.finished(d, number, model, states, commits):
                    order.append(model)
                    counts[0] += 1
                elif model.changed:
                    counts[1] += 1
                self.assert_same(self.told(d), self.shown_all(states[-1]))
            elif deed < 0.98:
                d.abort(number)
                del models[number]
            else:
                d.tidy()
                self.assert_same(Store(disk.lose([])).versions(), sorted(
                    {model.start for model in models.values() if model.start > 0} | {len(states) - 1} - {0}))
            self.assert_same([d.sessions(), d.latest()], [sorted(models), len(states) - 1])
        # One after the other, in the order of their commits, the sessions get the same answers.
        arrays = {}
        for model in order:
            for method, args, found in model.calls:
                self.assert_same(plain(performed(arrays, method, args)), plain(found))
        self.assert_same(self.shown_all(arrays), self.shown_all(states[-1]))
        self.assert_same(self.told(Database(disk.lose([]))), self.shown_all(arrays))
        return counts

    def test_histories(self):
        counts = [self.history(seed) for seed in range(250)]
        committed, refused, begun = [sum(column) for column in zip(*counts)]
        self.assertGreater(committed, 500)
        self.assertGreater(refused, 70)
        self.assertGreater(begun, committed + refused)


class PowerTest(Case):
    def database(self):
        """Returns a disk, a database on it, and a session of it that has changed something; version 2 is the latest one."""
        disk = Disk()
        d = Database(disk)
        for turn in range(2):
            s = d.begin()
            d.create(s, "a", SHAPES[0]), d.create(s, "b", SHAPES[1])
            d.put(s, "a", {(turn,): (turn,), (4,): (None,)})
            d.commit(s)
        s = d.begin()
        d.put(s, "a", {(0,): (7,), (3,): (8,)}), d.drop(s, "b"), d.keep(s, "c", ("shift", ("scan", "a"), (("x", 1),)))
        return disk, d, s

    BEFORE = {"a": (SHAPES[0], [((0,), (0,)), ((1,), (1,)), ((4,), (None,))]), "b": (SHAPES[1], [])}
    BEHIND = {"a": (SHAPES[0], [((0,), (7,)), ((1,), (1,)), ((3,), (8,)), ((4,), (None,))]),
              "c": (Shape((("x", 1, 6, 2),), (("v", "int"),)), [((1,), (7,)), ((2,), (1,)), ((4,), (8,)), ((5,), (None,))])}

    def told(self, d):
        s = d.begin()
        found = {name: (shown(d.shape(s, name)), sorted(d.ask(s, ("scan", name)).cells.items())) for name in d.names(s)}
        d.abort(s)
        return found

    def wanted(self, arrays):
        return {name: (shown(shape), cells) for name, (shape, cells) in arrays.items()}

    def assert_remains(self, disk, wanted):
        """Whatever remains, an opened database tells one of some states; returns the set of their indexes."""
        seen = set()
        for choices in some_choices(60, 9):
            left = disk.lose(choices)
            d = Database(left)
            self.assert_same(d.sessions(), [])
            self.assertIn(d.latest(), (2, 3))
            found = self.told(d)
            self.assertIn(found, wanted)
            self.assert_same(d.latest() == 3, found == wanted[-1])
            seen.add(wanted.index(found))
            # Nothing counts as changed, and the database can be used further.
            s = d.begin()
            d.names(s), d.put(s, "a", {(5,): (1,)})
            self.assert_same(d.commit(s), d.latest())
            self.assert_same(self.told(Database(left.lose([])))["a"][1][-1], ((5,), (1,)))
        return seen

    def test_committing(self):
        def make():
            disk, d, s = self.database()
            return disk, (d, s)

        pairs = cut_off(make, lambda pair: pair[0].commit(pair[1]))
        # Five chunks with their marks have octets that the version before does not have.
        self.assert_same(pairs[-1][1], 3)
        self.assertGreater(len(pairs), 8)
        seen = [self.assert_remains(disk, [self.wanted(self.BEFORE), self.wanted(self.BEHIND)]) for disk, _ in pairs]
        self.assertEqual([seen[0], seen[-1]], [{0}, {1}])
        self.assertEqual(set.union(*seen[:-1]), {0, 1})

    def test_tidying(self):
        def make():
            disk, d, _ = self.database()
            return disk, d

        def without_the_session():
            disk, d, s = self.database()
            d.abort(s)
            return disk, d

        for way in (make, without_the_session):
            pairs = cut_off(way, lambda d: d.tidy())
            self.assertGreater(len(pairs), 8)
            for disk, _ in pairs:
                for choices in some_choices(60, 10):
                    left = disk.lose(choices)
                    d = Database(left)
                    self.assert_same([d.latest(), self.told(d)], [2, self.wanted(self.BEFORE)])
                    self.assertIn(Store(left).versions(), ([1, 2], [2]))
            self.assert_same(Store(pairs[-1][0].lose([])).versions(), [2])

    def test_opening(self):
        disk, d, s = self.database()
        files = {**files_of(disk), "root.new": [1, 2], "data.1": [3], "data.7": []}
        for other, _ in cut_off(lambda: (disk_of(files),) * 2, Database):
            for choices in some_choices(20, 11):
                self.assert_same(self.told(Database(other.lose(choices))), self.wanted(self.BEFORE))

    def test_sessions_are_lost(self):
        disk, d, s = self.database()
        disk.allow(2)
        self.assertRaises(PowerLost, d.commit, s)
        d = Database(disk.lose([9]))
        self.assert_same([d.sessions(), d.begin(), d.sessions(), d.commit(1)], [[], 1, [1], 0])
