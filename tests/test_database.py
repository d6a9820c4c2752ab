"""Points 24.1 to 24.3 and 24.6: the database and its sessions."""

import inspect

from manysides.arrays import Array
from manysides.database import Database
from manysides.disk import Disk
from manysides.errors import Damaged, InvalidCell, InvalidQuery, InvalidWords, PowerLost, Truncated
from manysides.shapes import Shape
from manysides.store import Store
from manysides.stored import array_names, read_array, stored_array
from manysides.vacuum import used
from tests.helpers import LINE, MIXED, Case
from tests.stores import disk_of, files_of

M, K = ("scan", "m"), ("scan", "k")
V = ("attr", "v")
CELLS = {(1,): (7,), (6,): (2,), (8,): (None,)}
OTHER = Shape((("y", -3, 3, 1),), (("w", "text"),))


def database(disk=None):
    """Returns a database with the arrays m and k in version 1."""
    d = Database(Disk() if disk is None else disk)
    s = d.begin()
    d.create(s, "m", LINE)
    d.put(s, "m", CELLS)
    d.create(s, "k", OTHER)
    d.put(s, "k", {(0,): ("a",)})
    d.commit(s)
    return d


def cells_of(d, session, name):
    """Returns the cells that a session sees of an array, in order, or None if it is not there."""
    if d.shape(session, name) is None:
        return None
    return sorted(d.ask(session, ("scan", name)).cells.items())


class SessionTest(Case):
    def test_example(self):
        d = Database(Disk())
        s = d.begin()
        self.assert_same(d.create(s, "m", Shape((("x", 0, 9, 5),), (("v", "int"),))), True)
        self.assert_same(d.put(s, "m", {(1,): (7,), (6,): (2,)}), True)
        self.assert_same(d.commit(s), 1)
        self.assert_same(d.ask_text(d.begin(), "m | keep v > 4").cells, {(1,): (7,)})

    def test_the_arguments(self):
        room = inspect.signature(Database).parameters["room"]
        self.assertEqual([room.kind, room.default], [inspect.Parameter.KEYWORD_ONLY, 16])
        for room in (0, 1, 40):
            d = Database(Disk(), room=room)
            s = d.begin()
            d.create(s, "m", LINE)
            d.put(s, "m", CELLS)
            d.commit(s)
            self.assert_same(cells_of(d, d.begin(), "m"), sorted(CELLS.items()))

    def test_numbers_of_sessions_and_versions(self):
        d = Database(Disk())
        self.assert_same([d.sessions(), d.latest()], [[], 0])
        self.assert_same([d.begin(), d.begin(), d.begin(), d.sessions()], [1, 2, 3, [1, 2, 3]])
        self.assertIsNone(d.abort(2))
        self.assert_same([d.sessions(), d.begin(), d.sessions()], [[1, 3], 4, [1, 3, 4]])
        d.create(3, "a", LINE), d.create(4, "b", LINE)
        self.assert_same([d.commit(4), d.latest(), d.sessions()], [1, 1, [1, 3]])
        self.assert_same([d.commit(1), d.latest(), d.sessions()], [0, 1, [3]])
        self.assert_same([d.commit(3), d.latest(), d.sessions()], [2, 2, []])
        self.assert_same([d.begin(), d.begin()], [5, 6])
        d.sessions().clear()
        self.assert_same(d.sessions(), [5, 6])
        d.create(5, "c", LINE), d.create(6, "c", LINE)
        self.assert_same([d.commit(6), d.commit(5), d.latest(), d.sessions()], [3, None, 3, []])

    def test_an_empty_database(self):
        d = Database(Disk())
        s = d.begin()
        self.assert_same([d.names(s), d.shape(s, "m"), d.drop(s, "m"), d.put(s, "m", CELLS), d.take(s, "m", [(1,)])],
                         [[], None, False, False, False])
        self.assert_error(InvalidQuery, 0, d.ask, s, M)
        self.assert_same(d.commit(s), 0)

    def test_later_commits_are_not_seen(self):
        d = database()
        early = d.begin()
        s = d.begin()
        d.put(s, "m", {(1,): (8,)}), d.take(s, "m", [(6,)]), d.drop(s, "k"), d.create(s, "n", LINE)
        self.assert_same(d.commit(s), 2)
        late = d.begin()
        self.assert_same([d.names(early), d.names(late)], [["k", "m"], ["m", "n"]])
        self.assert_same([cells_of(d, early, "m"), cells_of(d, late, "m")], [sorted(CELLS.items()), [((1,), (8,)), ((8,), (None,))]])
        self.assert_same([cells_of(d, early, "k"), cells_of(d, late, "k")], [[((0,), ("a",))], None])
        self.assert_same([cells_of(d, early, "n"), cells_of(d, late, "n")], [None, []])
        d.tidy()
        self.assert_same([cells_of(d, early, "m"), d.names(early)], [sorted(CELLS.items()), ["k", "m"]])

    def test_own_changes_are_seen_by_the_session_alone(self):
        d = database()
        s, other = d.begin(), d.begin()
        d.put(s, "m", {(1,): (8,), (2,): (9,)}), d.drop(s, "k"), d.create(s, "n", OTHER)
        self.assert_same(cells_of(d, s, "m"), [((1,), (8,)), ((2,), (9,)), ((6,), (2,)), ((8,), (None,))])
        self.assert_same([d.names(s), d.shape(s, "k")], [["m", "n"], None])
        self.assertEqual(d.shape(s, "n"), OTHER)
        self.assert_error(InvalidQuery, 0, d.ask, s, K)
        self.assert_same([d.names(other), cells_of(d, other, "m")], [["k", "m"], sorted(CELLS.items())])
        d.abort(s)
        self.assert_same([d.names(d.begin()), cells_of(d, d.begin(), "m"), d.latest()], [["k", "m"], sorted(CELLS.items()), 1])

    def test_what_a_database_keeps_is_its_own(self):
        d = database()
        s = d.begin()
        cells, places = {(2,): (3,)}, [(1,)]
        self.assert_unchanged(d.put, s, "m", cells)
        cells[(3,)] = (4,)
        self.assert_unchanged(d.take, s, "m", places)
        places.append((6,))
        answer = d.ask(s, M)
        self.assert_same(sorted(answer.cells), [(2,), (6,), (8,)])
        answer.cells.clear()
        d.names(s).clear()
        self.assert_same([sorted(d.ask(s, M).cells), d.names(s)], [[(2,), (6,), (8,)], ["k", "m"]])
        d.keep(s, "n", M)
        d.put(s, "n", {(0,): (1,)})
        d.take(s, "m", [(2,)])
        self.assert_same([sorted(d.ask(s, M).cells), sorted(d.ask(s, ("scan", "n")).cells)], [[(6,), (8,)], [(0,), (2,), (6,), (8,)]])


class MethodsTest(Case):
    def test_names(self):
        d = database()
        s = d.begin()
        for name in ("b", "Z", "_", "a1"):
            d.create(s, name, LINE)
        d.keep(s, "c", M)
        self.assert_same(d.names(s), ["Z", "_", "a1", "b", "c", "k", "m"])
        d.drop(s, "m"), d.drop(s, "b")
        self.assert_same(d.names(s), ["Z", "_", "a1", "c", "k"])
        d.create(s, "m", LINE)
        d.commit(s)
        self.assert_same(d.names(d.begin()), ["Z", "_", "a1", "c", "k", "m"])

    def test_create(self):
        d = database()
        s = d.begin()
        self.assert_same([d.create(s, "m", OTHER), d.create(s, "n", OTHER), d.create(s, "n", LINE)], [False, True, False])
        self.assertEqual([d.shape(s, "m"), d.shape(s, "n")], [LINE, OTHER])
        self.assert_same([d.drop(s, "m"), d.create(s, "m", OTHER), cells_of(d, s, "m")], [True, True, []])
        self.assert_same([d.drop(s, "n"), d.create(s, "n", LINE)], [True, True])
        self.assert_same(d.commit(s), 2)
        t = d.begin()
        self.assertEqual([d.shape(t, "m"), d.shape(t, "n")], [OTHER, LINE])
        self.assert_same([cells_of(d, t, "m"), cells_of(d, t, "n")], [[], []])

    def test_names_of_28_characters(self):
        d = database()
        s = d.begin()
        self.assert_same([d.create(s, "x" * 28, LINE), d.put(s, "x" * 28, CELLS), d.commit(s)], [True, True, 2])
        self.assert_same(cells_of(d, d.begin(), "x" * 28), sorted(CELLS.items()))

    def test_drop(self):
        d = database()
        s = d.begin()
        self.assert_same([d.drop(s, "n"), d.drop(s, "m"), d.drop(s, "m"), d.shape(s, "m")], [False, True, False, None])
        self.assert_same([d.put(s, "m", CELLS), d.take(s, "m", [(1,)]), d.names(s)], [False, False, ["k"]])
        self.assert_same([d.create(s, "n", LINE), d.drop(s, "n"), d.drop(s, "n")], [True, True, False])
        self.assert_same([d.commit(s), d.names(d.begin())], [2, ["k"]])

    def test_put(self):
        d = database()
        s = d.begin()
        self.assert_same([d.put(s, "m", {}), d.put(s, "n", {}), d.put(s, "n", CELLS)], [True, False, False])
        self.assert_same(cells_of(d, s, "m"), sorted(CELLS.items()))
        self.assert_same(d.put(s, "m", {(9,): (4,), (1,): (None,), (0,): (10 ** 30 - 1,)}), True)
        wanted = [((0,), (10 ** 30 - 1,)), ((1,), (None,)), ((6,), (2,)), ((8,), (None,)), ((9,), (4,))]
        self.assert_same(cells_of(d, s, "m"), wanted)
        self.assert_same([d.create(s, "n", MIXED), d.put(s, "n", {(0,): (1, True, "a\n")})], [True, True])
        d.commit(s)
        s = d.begin()
        self.assert_same([cells_of(d, s, "m"), cells_of(d, s, "n")], [wanted, [((0,), (1, True, "a\n"))]])

    def test_wrong_cells(self):
        d = database()
        s = d.begin()
        d.create(s, "n", MIXED)
        before = [cells_of(d, s, "m"), cells_of(d, s, "n")]
        for name, cells, place in (("m", {(10,): (1,)}, 0), ("m", {(1,): (5,), (12,): (1,), (-1,): (1,)}, 0), ("m", {(1,): (5,), (2,): (True,)}, 1),
                                   ("m", {(3,): (), (2,): (1,)}, 1), ("m", {(1,): (5,), (2,): (6,), (3,): (10 ** 30,)}, 2), ("m", {(1, 1): (5,)}, 0),
                                   ("m", {(1,): ("a",)}, 0), ("n", {(5,): (1, True, "a"), (7,): (1, 1, "a")}, 1)):
            self.assert_error(InvalidCell, place, d.put, s, name, cells)
            self.assert_same([cells_of(d, s, "m"), cells_of(d, s, "n")], before)
        self.assert_same(d.put(s, "o", {(10,): (1,)}), False)
        d.drop(s, "n")
        self.assert_same(d.put(s, "n", {(10,): (1,)}), False)
        d.abort(s)
        s = d.begin()
        self.assert_error(InvalidCell, 0, d.put, s, "m", {(10,): (1,)})
        self.assert_same(d.commit(s), 0)

    def test_take(self):
        d = database()
        s = d.begin()
        self.assert_same([d.take(s, "m", []), d.take(s, "n", []), d.take(s, "m", [(0,), (99,), (1,), (1,), (1, 2)])], [True, False, True])
        self.assert_same(cells_of(d, s, "m"), [((6,), (2,)), ((8,), (None,))])
        self.assert_same([d.put(s, "m", {(1,): (5,)}), d.take(s, "m", [(6,), (8,)])], [True, True])
        self.assert_same([cells_of(d, s, "m"), d.commit(s), cells_of(d, d.begin(), "m")], [[((1,), (5,))], 2, [((1,), (5,))]])
        s = d.begin()
        self.assert_same([d.take(s, "m", [(1,)]), cells_of(d, s, "m"), d.commit(s), cells_of(d, d.begin(), "m")], [True, [], 3, []])

    def test_ask(self):
        d = database()
        s = d.begin()
        d.put(s, "m", {(3,): (1,)})
        d.create(s, "n", LINE)
        d.put(s, "n", {(2,): (5,), (3,): (6,)})
        query = ("sorted", ("either", ("scan", "n"), ("keep", M, ("not", ("is missing", V)))), ((V, "down"),), "i", 3)
        self.assertEqual(d.ask(s, query).cells, {(0,): (1, 7), (1,): (3, 6), (2,): (2, 5)})
        self.assert_same(d.ask(s, query).shape.dims, (("i", 0, 2, 3),))
        self.assertEqual(d.ask(s, ("across", ("named", M, (("x", "z"), ("v", "u"))), K)).cells,
                         {(x, 0): (v, "a") for x, v in ((1, 7), (3, 1), (6, 2), (8, None))})
        self.assert_error(InvalidQuery, 1, d.ask, s, ("join", ("keep", M, V), K))
        self.assert_error(InvalidQuery, 1, d.ask, s, ("only", ("scan", "z"), ("v",)))

    def test_ask_text(self):
        d = database()
        s = d.begin()
        d.put(s, "m", {(2,): (9,)})
        self.assertEqual(d.ask_text(s, "m | keep v > 4 | group: n = count()"),
                         Array(Shape((("all", 0, 0, 1),), (("n", "int"),)), {(0,): (2,)}))
        self.assert_error(InvalidWords, 4, d.ask_text, s, "m | m")
        self.assert_error(InvalidQuery, 1, d.ask_text, s, "z | only v")
        self.assert_error(InvalidQuery, 0, d.ask_text, s, "m | group: n = sum()")

    def test_keep(self):
        d = database()
        s = d.begin()
        self.assertIsNone(d.keep(s, "n", ("shift", M, (("x", 5),))))
        self.assertEqual(d.shape(s, "n").dims, (("x", 5, 14, 5),))
        self.assert_same(cells_of(d, s, "n"), [((6,), (7,)), ((11,), (2,)), ((13,), (None,))])
        self.assertIsNone(d.keep(s, "k", ("keep", M, ("gt", V, ("value", "int", 4)))))
        self.assertIsNone(d.keep(s, "m", ("only", ("with", M, (("u", ("neg", V)),)), ("u",))))
        self.assert_same([cells_of(d, s, "k"), cells_of(d, s, "m")], [[((1,), (7,))], [((1,), (-7,)), ((6,), (-2,)), ((8,), (None,))]])
        for query, place in ((("keep", M, V), 0), (("join", M, ("scan", "z")), 2), (("scan", "z"), 0)):
            self.assert_error(InvalidQuery, place, d.keep, s, "k", query)
            self.assert_error(InvalidQuery, place, d.keep, s, "new", query)
        self.assert_same([cells_of(d, s, "k"), d.names(s), d.commit(s)], [[((1,), (7,))], ["k", "m", "n"], 2])
        s = d.begin()
        self.assert_same([cells_of(d, s, name) for name in ("k", "m", "n")],
                         [[((1,), (7,))], [((1,), (-7,)), ((6,), (-2,)), ((8,), (None,))], [((6,), (7,)), ((11,), (2,)), ((13,), (None,))]])
        self.assertEqual(d.shape(s, "m"), Shape(LINE.dims, (("u", "int"),)))

    def test_a_query_without_a_shape_keeps_nothing(self):
        d = database()
        s = d.begin()
        self.assert_error(InvalidQuery, 0, d.keep, s, "m", ("scan", "z"))
        self.assert_same(d.commit(s), 0)


class CommitTest(Case):
    def test_nothing_changed(self):
        d = database()
        s = d.begin()
        d.names(s), d.shape(s, "m"), d.ask(s, M), d.create(s, "m", LINE), d.drop(s, "z"), d.put(s, "z", CELLS), d.take(s, "z", [])
        other = d.begin()
        d.put(other, "m", {}), d.drop(other, "k")
        d.commit(other)
        # It has touched what was changed, but it is not refused.
        self.assert_same([d.commit(s), d.latest(), d.sessions()], [0, 2, []])

    def test_changes_that_make_no_difference(self):
        changes = (lambda d, s: d.put(s, "m", {}), lambda d, s: d.put(s, "m", CELLS), lambda d, s: d.take(s, "m", []),
                   lambda d, s: d.take(s, "m", [(0,)]), lambda d, s: d.keep(s, "m", M), lambda d, s: (d.create(s, "n", LINE), d.drop(s, "n")))
        for change in changes:
            disk = Disk()
            d = database(disk)
            size, done = disk.size("data.0"), disk.done()
            s = d.begin()
            change(d, s)
            self.assert_same([d.commit(s), d.latest(), disk.size("data.0"), disk.done() - done], [2, 2, size, 4])
            self.assert_same([d.names(d.begin()), cells_of(d, d.begin(), "m")], [["k", "m"], sorted(CELLS.items())])

    def test_what_stands_in_the_store(self):
        disk = Disk()
        d = database(disk)
        store = Store(disk.lose([]))
        self.assert_same([store.versions(), store.arrays(1)], [[1], ["d_k", "d_m", "m_k", "m_m"]])
        self.assertEqual(read_array(store, 1, "m"), Array(LINE, CELLS))
        for name, pair in zip(("d_m", "m_m"), stored_array(Array(LINE, CELLS))):
            self.assertEqual(store.shape(1, name), pair[0])
            self.assert_same([(chunk, store.chunk(1, name, chunk)) for chunk in store.chunks(1, name)], sorted(pair[1].items()))
        s = d.begin()
        d.put(s, "m", {(9,): (1,)}), d.drop(s, "k"), d.create(s, "n", OTHER)
        records = len(used(store))
        self.assert_same([records, d.commit(s)], [6, 2])
        store = Store(disk.lose([]))
        self.assert_same([store.arrays(2), array_names(store, 1), array_names(store, 2)],
                         [["d_m", "d_n", "m_m", "m_n"], ["k", "m"], ["m", "n"]])
        # One chunk of m has other cells and other marks: two records more.
        self.assert_same(len(used(store)), records + 2)

    def test_a_commit_is_made_on_the_latest_version(self):
        d = database()
        first, second = d.begin(), d.begin()
        d.put(first, "m", {(0,): (1,)}), d.create(first, "a", LINE)
        d.put(second, "k", {(1,): ("b",)}), d.create(second, "b", LINE)
        self.assert_same([d.commit(first), d.commit(second)], [2, 3])
        s = d.begin()
        self.assert_same([d.names(s), cells_of(d, s, "k")], [["a", "b", "k", "m"], [((0,), ("a",)), ((1,), ("b",))]])
        self.assert_same(cells_of(d, s, "m"), sorted([((0,), (1,))] + list(CELLS.items())))

    def test_refused_sessions_have_no_effect(self):
        disk = Disk()
        d = database(disk)
        s, other = d.begin(), d.begin()
        for session in (s, other):
            d.put(session, "m", {(0,): (session,)})
        self.assert_same(d.commit(s), 2)
        files = files_of(disk)
        self.assert_same([d.commit(other), files_of(disk), d.latest(), d.sessions()], [None, files, 2, []])
        self.assert_same(cells_of(d, d.begin(), "m")[0], ((0,), (s,)))

    def test_commits_before_the_beginning_do_not_count(self):
        d = database()
        for number in range(2, 6):
            s = d.begin()
            d.put(s, "m", {(0,): (number,)}), d.create(s, f"n{number}", LINE), d.names(s)
            self.assert_same(d.commit(s), number)

    def test_aborted_and_refused_sessions_change_nothing_for_others(self):
        d = database()
        s, aborted, refused = d.begin(), d.begin(), d.begin()
        d.put(aborted, "m", {}), d.abort(aborted)
        other = d.begin()
        d.put(other, "k", {}), d.commit(other)
        d.put(refused, "m", {}), d.shape(refused, "k")
        self.assertIsNone(d.commit(refused))
        d.put(s, "m", {(0,): (1,)})
        self.assert_same(d.commit(s), 3)

    def test_arrays_of_the_store_that_are_none_of_the_database(self):
        disk = Disk()
        octets = {"x": (LINE, {(0,): [1, 2]}), "d_y": (LINE, {(1,): [3]}), "m_z": (LINE, {})}
        Store(disk).put(octets)
        d = Database(disk)
        s = d.begin()
        self.assert_same([d.names(s), d.create(s, "a", LINE), d.commit(s)], [[], True, 2])
        store = Store(disk.lose([]))
        self.assert_same([store.arrays(2), store.chunk(2, "x", (0,)), store.chunk(2, "d_y", (1,))],
                         [["d_a", "d_y", "m_a", "m_z", "x"], [1, 2], [3]])


class TouchTest(Case):
    """Each touch of a session against each change of another one that is committed behind its beginning."""

    TOUCHES = {
        "ask": lambda d, s: d.ask(s, M),
        "ask inside": lambda d, s: d.ask(s, ("join", ("named", ("box", M, ()), (("v", "u"),)), M)),
        "ask at the end": lambda d, s: d.ask(s, ("across", K, ("named", M, (("v", "u"),)))),
        "ask text": lambda d, s: d.ask_text(s, "across(k; m | named v as u)"),
        "shape": lambda d, s: d.shape(s, "m"),
        "create": lambda d, s: d.create(s, "m", LINE),
        "drop": lambda d, s: d.drop(s, "m"),
        "put": lambda d, s: d.put(s, "m", CELLS),
        "put nothing": lambda d, s: d.put(s, "m", {}),
        "take": lambda d, s: d.take(s, "m", [(1,)]),
        "take nothing": lambda d, s: d.take(s, "m", []),
        "keep another one": lambda d, s: d.keep(s, "z", M),
        "keep under its name": lambda d, s: d.keep(s, "m", K),
    }
    WRONG_TOUCHES = {
        "ask without a shape": (InvalidQuery, lambda d, s: d.ask(s, ("keep", M, V))),
        "ask with another fault before": (InvalidQuery, lambda d, s: d.ask(s, ("join", ("scan", "none"), M))),
        "ask text without a shape": (InvalidQuery, lambda d, s: d.ask_text(s, "join(none; m) | only")),
        "put wrong cells": (InvalidCell, lambda d, s: d.put(s, "m", {(77,): (1,)})),
        "keep without a shape": (InvalidQuery, lambda d, s: d.keep(s, "z", ("keep", M, V))),
    }
    NOT_TOUCHES = {
        "nothing": lambda d, s: None,
        "ask": lambda d, s: d.ask(s, K),
        "shape": lambda d, s: d.shape(s, "k"),
        "shape of none": lambda d, s: d.shape(s, "none"),
        "change": lambda d, s: (d.put(s, "k", {(1,): ("b",)}), d.take(s, "k", [(1,)])),
        "keep": lambda d, s: d.keep(s, "z", K),
        "create": lambda d, s: (d.create(s, "y", LINE), d.drop(s, "y")),
        "other methods": lambda d, s: (d.begin(), d.sessions(), d.latest(), d.tidy()),
    }
    WRONG_NOT_TOUCHES = {
        "no words": (InvalidWords, lambda d, s: d.ask_text(s, "m | m")),
        "keep under its name without a shape": (InvalidQuery, lambda d, s: d.keep(s, "m", ("only", K, ()))),
        "ask for none": (InvalidQuery, lambda d, s: d.ask(s, ("scan", "none"))),
    }
    CHANGES = {
        "put": lambda d, s: d.put(s, "m", {(0,): (5,)}),
        "put nothing": lambda d, s: d.put(s, "m", {}),
        "take": lambda d, s: d.take(s, "m", [(1,)]),
        "take nothing": lambda d, s: d.take(s, "m", []),
        "drop": lambda d, s: d.drop(s, "m"),
        "drop and create": lambda d, s: (d.drop(s, "m"), d.create(s, "m", LINE)),
        "keep": lambda d, s: d.keep(s, "m", K),
        "keep the same": lambda d, s: d.keep(s, "m", M),
    }
    # The changes of an array that is not there.
    NEW_CHANGES = {
        "create": lambda d, s: d.create(s, "m", LINE),
        "create and drop": lambda d, s: (d.create(s, "m", LINE), d.drop(s, "m")),
        "keep": lambda d, s: d.keep(s, "m", K),
    }
    NO_CHANGES = {
        "nothing": lambda d, s: (d.names(s), d.shape(s, "m")),
        "another one": lambda d, s: d.put(s, "l", {}),
        "create another one": lambda d, s: d.create(s, "new", LINE),
        "create what is there": lambda d, s: (d.create(s, "m", LINE), d.put(s, "l", {})),
    }

    def database(self, is_there):
        d = database()
        s = d.begin()
        d.create(s, "l", LINE)
        if not is_there:
            d.drop(s, "m")
        d.commit(s)
        return d

    def is_refused(self, touch, change, is_there=True):
        """Returns True if a session that touched something, and created an array, is refused behind a change."""
        d = self.database(is_there)
        s, other = d.begin(), d.begin()
        if isinstance(touch, tuple):
            self.assertRaises(touch[0], touch[1], d, s)
        else:
            touch(d, s)
        d.create(s, "mine", LINE)
        before = d.latest()
        change(d, other)
        self.assertIn(d.commit(other), (0, before + 1))
        before = d.latest()
        number = d.commit(s)
        self.assertIn(number, (None, before + 1))
        return number is None

    def test_what_touches_an_array(self):
        for touches in (self.TOUCHES, self.WRONG_TOUCHES):
            for word, touch in touches.items():
                for change in self.CHANGES:
                    self.assertTrue(self.is_refused(touch, self.CHANGES[change]), (word, change))
                for change in self.NO_CHANGES:
                    self.assertFalse(self.is_refused(touch, self.NO_CHANGES[change]), (word, change))

    def test_what_touches_an_array_that_is_not_there(self):
        touches = {word: self.TOUCHES[word] for word in ("shape", "create", "drop", "put", "put nothing", "take", "take nothing",
                                                         "keep under its name")}
        touches["ask"] = (InvalidQuery, lambda d, s: d.ask(s, M))
        touches["ask inside"] = (InvalidQuery, lambda d, s: d.ask(s, ("join", K, M)))
        touches["ask text"] = (InvalidQuery, lambda d, s: d.ask_text(s, "join(k; m)"))
        touches["keep"] = (InvalidQuery, lambda d, s: d.keep(s, "z", M))
        touches["put wrong cells"] = lambda d, s: d.put(s, "m", {(77,): (1,)})
        for word, touch in touches.items():
            for change in self.NEW_CHANGES:
                self.assertTrue(self.is_refused(touch, self.NEW_CHANGES[change], False), (word, change))

    def test_what_does_not_touch_it(self):
        for touches in (self.NOT_TOUCHES, self.WRONG_NOT_TOUCHES):
            for word, touch in touches.items():
                for change in self.CHANGES:
                    self.assertFalse(self.is_refused(touch, self.CHANGES[change]), (word, change))
                for change in self.NEW_CHANGES:
                    self.assertFalse(self.is_refused(touch, self.NEW_CHANGES[change], False), (word, change))

    def test_the_list_of_names(self):
        def touch(d, s):
            return d.names(s)

        for change, wanted in (("put", False), ("put nothing", False), ("take", False), ("take nothing", False), ("drop", True),
                               ("drop and create", False), ("keep", False), ("keep the same", False)):
            self.assertEqual(self.is_refused(touch, self.CHANGES[change]), wanted, change)
        for change in self.NEW_CHANGES:
            self.assertTrue(self.is_refused(touch, self.NEW_CHANGES[change], False), change)
        self.assertTrue(self.is_refused(touch, self.NO_CHANGES["create another one"]))
        self.assertFalse(self.is_refused(touch, self.NO_CHANGES["nothing"]))

    def test_two_changes_of_the_same_array(self):
        for word, touch in self.CHANGES.items():
            for change in self.CHANGES:
                self.assertTrue(self.is_refused(touch, self.CHANGES[change]), (word, change))
        for word, touch in self.NEW_CHANGES.items():
            for change in self.NEW_CHANGES:
                self.assertTrue(self.is_refused(touch, self.NEW_CHANGES[change], False), (word, change))

    def test_one_of_several_commits(self):
        for changed in range(3):
            d = self.database(True)
            s = d.begin()
            d.ask(s, M), d.create(s, "mine", LINE)
            for turn in range(3):
                other = d.begin()
                d.put(other, "m" if turn == changed else "l", {})
                self.assert_same(d.commit(other), 3 + turn)
                d.tidy()
            self.assertIsNone(d.commit(s))
            self.assert_same(d.latest(), 5)


    def test_one_of_several_changes(self):
        def two(d, s):
            return d.put(s, "l", {}), d.create(s, "new", LINE), d.put(s, "k", {})

        self.assertTrue(self.is_refused(lambda d, s: d.names(s), two))
        self.assertTrue(self.is_refused(lambda d, s: d.shape(s, "k"), two))
        self.assertTrue(self.is_refused(lambda d, s: d.shape(s, "l"), two))
        self.assertTrue(self.is_refused(lambda d, s: (d.shape(s, "m"), d.shape(s, "k")), two))
        self.assertFalse(self.is_refused(lambda d, s: d.shape(s, "m"), two))

    def test_tidying_beside_sessions_that_began_later(self):
        for late_ones in range(3):
            d = self.database(True)
            s = d.begin()
            d.shape(s, "m"), d.create(s, "mine", LINE)
            other = d.begin()
            d.put(other, "m", {}), d.commit(other)
            for _ in range(late_ones):
                d.begin()
                other = d.begin()
                d.put(other, "k", {}), d.commit(other)
            d.tidy()
            self.assertIsNone(d.commit(s))


class OpeningTest(Case):
    def test_opening_again(self):
        disk = Disk()
        d = database(disk)
        s, other = d.begin(), d.begin()
        d.put(s, "m", {(0,): (1,)}), d.commit(s)
        d.put(other, "m", {(0,): (2,)})
        again = Database(disk.lose([]))
        self.assert_same([again.sessions(), again.latest(), again.begin()], [[], 2, 1])
        self.assert_same(cells_of(again, 1, "m")[0], ((0,), (1,)))
        self.assert_same([again.put(1, "m", {(0,): (3,)}), again.commit(1), again.latest()], [True, 3, 3])

    def test_errors_in_opening(self):
        self.assert_error(Truncated, 1, Database, disk_of({"root": [77]}))
        self.assert_error(Damaged, 0, Database, disk_of({"root": [78, 83]}))
        disk = disk_of({"root.new": [1]})
        disk.allow(0)
        self.assert_error(PowerLost, disk.done(), Database, disk)

    def test_lost_power(self):
        disk = Disk()
        d = database(disk)
        s = d.begin()
        d.put(s, "m", {(0,): (1,)})
        disk.allow(3)
        self.assert_error(PowerLost, disk.done() + 3, d.commit, s)
        disk = Disk()
        d = database(disk)
        disk.allow(0)
        self.assert_error(PowerLost, disk.done(), d.tidy)


class TidyTest(Case):
    def database(self):
        """Returns a disk and a database on it with five versions."""
        disk = Disk()
        d = database(disk)
        for number in range(2, 6):
            s = d.begin()
            d.put(s, "m", {(0,): (number,)})
            d.commit(s)
        return disk, d

    def test_without_sessions(self):
        disk, d = self.database()
        size = disk.size("data.0")
        self.assert_same(d.tidy(), size - disk.size("data.1"))
        self.assert_same([disk.names(), Store(disk.lose([])).versions(), d.latest()], [["data.1", "root"], [5], 5])
        self.assert_same(cells_of(d, d.begin(), "m")[0], ((0,), (5,)))
        self.assertGreater(size, disk.size("data.1"))
        size = disk.size("data.1")
        self.assert_same([d.tidy(), disk.size("data.2")], [0, size])

    def test_with_sessions(self):
        disk, d = self.database()
        at_five, ended = d.begin(), d.begin()
        s = d.begin()
        d.put(s, "m", {(0,): (6,)}), d.commit(s)
        at_six = d.begin()
        s = d.begin()
        d.put(s, "m", {(0,): (7,)}), d.commit(s)
        d.abort(ended)
        d.tidy()
        self.assert_same(Store(disk.lose([])).versions(), [5, 6, 7])
        at_seven = d.begin()
        self.assert_same([cells_of(d, session, "m")[0][1] for session in (at_five, at_six, at_seven)], [(5,), (6,), (7,)])
        d.put(at_seven, "k", {(1,): ("c",)})
        self.assert_same(d.commit(at_seven), 8)
        d.tidy()
        self.assert_same(Store(disk.lose([])).versions(), [5, 6, 8])
        d.put(at_six, "m", {})
        self.assert_same([cells_of(d, at_five, "k"), d.commit(at_five), d.commit(at_six)], [[((0,), ("a",))], 0, None])
        d.tidy()
        self.assert_same(Store(disk.lose([])).versions(), [8])
        at_eight = d.begin()
        d.tidy()
        self.assert_same([Store(disk.lose([])).versions(), len(cells_of(d, at_eight, "k"))], [[8], 2])

    def test_an_empty_database(self):
        disk = Disk()
        d = Database(disk)
        s = d.begin()
        self.assert_same([d.tidy(), d.latest(), d.names(s)], [0, 0, []])
        d.create(s, "a", LINE)
        self.assert_same([d.commit(s), disk.names()], [1, ["root"]])

    def test_sessions_that_began_without_versions(self):
        d = Database(Disk())
        early = d.begin()
        s = d.begin()
        d.create(s, "a", LINE), d.commit(s)
        d.tidy()
        self.assert_same([d.names(early), d.create(early, "b", LINE), d.commit(early)], [[], True, None])
        early = d.begin()
        self.assert_same([d.names(early), d.create(early, "b", LINE), d.tidy(), d.commit(early)], [["a"], True, 0, 2])

    def test_sessions_go_on_behind_tidying(self):
        disk, d = self.database()
        s = d.begin()
        d.put(s, "m", {(9,): (9,)})
        other = d.begin()
        d.put(other, "k", {(2,): ("z",)}), d.commit(other)
        d.tidy()
        self.assert_same([cells_of(d, s, "k"), d.commit(s)], [[((0,), ("a",))], None])
        s = d.begin()
        d.put(s, "m", {(9,): (9,)})
        other = d.begin()
        d.put(other, "k", {(3,): ("y",)}), d.commit(other)
        d.tidy()
        self.assert_same([d.commit(s), d.latest()], [8, 8])
        s = d.begin()
        self.assert_same([len(cells_of(d, s, "k")), cells_of(d, s, "m")[-1]], [3, ((9,), (9,))])
