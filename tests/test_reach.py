"""Points 14.1 to 14.3: what a change reaches, and renewing."""

import random

from manysides.arrays import Array
from manysides.errors import InvalidQuery
from manysides.parts import reads_of
from manysides.reach import reach, renewed
from manysides.shapes import Shape
from manysides.sources import MemorySource
from manysides.teller import tell
from tests import made
from tests.helpers import Case

SHAPES = {
    "m": Shape((("x", 0, 9, 5),), (("v", "int"),)),
    "k": Shape((("x", 4, 14, 5),), (("u", "int"),)),
    "p": Shape((("x", 0, 9, 5), ("y", -3, 4, 2)), (("v", "int"), ("f", "flag"))),
    "q": Shape((("z", 2, 12, 3), ("y", 0, 9, 9)), (("w", "int"),)),
}
M, K, P, Q = ("scan", "m"), ("scan", "k"), ("scan", "p"), ("scan", "q")
V, X = ("attr", "v"), ("dim", "x")
COUNT = (("n", "count", None),)
R = ((3, 4), (-1, 2))


class ReachTest(Case):
    def assert_reach(self, query, wanted, name="p", region=R):
        self.assert_same(self.assert_unchanged(reach, query, SHAPES, name, region), wanted)

    def test_example(self):
        m = Shape((("x", 0, 9, 5),), (("v", "int"),))
        near = ("window", M, (("x", 2, 0),), (("s", "sum", V),))
        self.assert_same((reach(near, {"m": m}, "m", ((3, 4),)), reach(near, {"m": m, "k": m}, "k", ((3, 4),))),
                         (((3, 6),), None))

    def test_scan(self):
        self.assert_reach(P, R)
        self.assert_reach(P, ((0, 9), (-3, 4)), "p", ((0, 9), (-3, 4)))
        self.assert_reach(M, None)
        self.assert_error(InvalidQuery, 1, reach, ("keep", ("scan", "o"), V), SHAPES, "m", ((0, 1),))

    def test_the_same_region(self):
        for word, *facts in (("keep", ("attr", "f")), ("with", (("g", X),)), ("only", ("v",)), ("named", (("x", "a"),)),
                             ("filled", (1, True))):
            self.assert_reach((word, P, *facts), R)
            self.assert_reach((word, P, *facts), None, "m", ((0, 1),))

    def test_one_part_without_a_reach(self):
        for word, *facts in (("box", ()), ("shift", ()), ("group", (), COUNT), ("window", (), COUNT), ("ranked", "r"),
                             ("regrid", (), COUNT), ("reform", (("x", 0, 9, 5),), COUNT), ("turned", ("y", "x")),
                             ("sorted", ((V, "up"),), "i", 3)):
            self.assert_reach((word, P, *facts), None, "m", ((0, 1),))

    def test_shift_and_turned(self):
        self.assert_reach(("shift", P, (("y", 7), ("x", -9))), ((-6, -5), (6, 9)))
        self.assert_reach(("turned", P, ("y", "x")), ((-1, 2), (3, 4)))
        self.assert_reach(("turned", ("across", M, Q), ("y", "x", "z")), ((5, 6), (0, 9), (2, 3)), "q", ((2, 3), (5, 6)))

    def test_box(self):
        self.assert_reach(("box", P, (("y", 1, 9),)), ((3, 4), (1, 2)))
        self.assert_reach(("box", P, (("y", 2, 9), ("x", 0, 3))), ((3, 3), (2, 2)))
        self.assert_reach(("box", P, (("y", 3, 9),)), None)
        self.assert_reach(("box", P, (("x", 5, 9), ("y", 0, 1))), None)
        self.assert_reach(("keep", ("window", ("box", P, (("x", 5, 9),)), (("x", 9, 9),), COUNT), ("gt", X, X)), None)

    def test_join(self):
        both = ("join", M, K)
        self.assert_reach(both, ((4, 6),), "m", ((2, 6),))
        self.assert_reach(both, None, "m", ((0, 3),))
        self.assert_reach(both, ((9, 9),), "k", ((9, 12),))
        self.assert_reach(both, None, "k", ((10, 12),))
        twice = ("join", M, ("named", ("shift", M, (("x", 4),)), (("v", "u"),)))
        self.assert_reach(twice, ((4, 9),), "m", ((4, 5),))
        self.assert_reach(twice, ((5, 6),), "m", ((1, 2),))
        self.assert_reach(twice, ((8, 8),), "m", ((8, 8),))
        self.assert_reach(twice, ((6, 7),), "m", ((6, 7),))

    def test_either(self):
        other = ("named", K, (("u", "v"),))
        self.assert_reach(("either", M, other), ((2, 6),), "m", ((2, 6),))
        self.assert_reach(("either", M, other), ((12, 13),), "k", ((12, 13),))
        self.assert_reach(("either", M, ("shift", M, (("x", 4),))), ((1, 6),), "m", ((1, 2),))
        self.assert_reach(("either", ("shift", M, (("x", 4),)), M), ((1, 6),), "m", ((1, 2),))
        self.assert_reach(("either", M, other), None, "p")

    def test_across(self):
        both = ("across", M, Q)
        self.assert_reach(both, ((1, 2), (2, 12), (0, 9)), "m", ((1, 2),))
        self.assert_reach(both, ((0, 9), (3, 4), (5, 6)), "q", ((3, 4), (5, 6)))
        self.assert_reach(both, None)
        twice = ("across", M, ("named", M, (("x", "y"), ("v", "w"))))
        self.assert_reach(twice, ((0, 9), (0, 9)), "m", ((1, 2),))
        self.assert_reach(("across", ("box", M, (("x", 5, 9),)), twice[2]), ((5, 9), (1, 2)), "m", ((1, 2),))

    def test_match(self):
        named = ("named", Q, (("y", "b"),))
        both = ("match", P, named, (("x", "z"),))
        self.assert_reach(both, ((3, 4), (-1, 2), (0, 9)))
        self.assert_reach(both, ((2, 3), (-1, 2), (0, 9)), "p", ((0, 3), (-1, 2)))
        self.assert_reach(both, None, "p", ((0, 1), (-1, 2)))
        self.assert_reach(both, ((4, 5), (-3, 4), (7, 8)), "q", ((4, 5), (7, 8)))
        self.assert_reach(both, ((9, 9), (-3, 4), (7, 8)), "q", ((9, 12), (7, 8)))
        self.assert_reach(both, None, "q", ((10, 12), (7, 8)))
        two = ("match", P, Q, (("y", "y"), ("x", "z")))
        self.assert_reach(two, ((2, 3), (0, 2)), "p", ((1, 3), (-1, 2)))
        self.assert_reach(two, ((4, 5), (3, 4)), "q", ((4, 5), (3, 8)))
        self.assert_reach(two, None, "q", ((4, 5), (5, 8)))
        twice = ("match", M, ("named", M, (("x", "y"), ("v", "w"))), (("x", "y"),))
        self.assert_reach(twice, ((1, 2),), "m", ((1, 2),))
        twice = ("match", M, ("named", ("shift", M, (("x", 3),)), (("x", "y"), ("v", "w"))), (("x", "y"),))
        self.assert_reach(twice, ((4, 8),), "m", ((4, 5),))
        self.assert_reach(twice, ((4, 5),), "m", ((1, 2),))

    def test_group(self):
        self.assert_reach(("group", P, ("y",), COUNT), ((-1, 2),))
        self.assert_reach(("group", P, ("y", "x"), COUNT), ((-1, 2), (3, 4)))
        self.assert_reach(("group", P, (), COUNT), ((0, 0),))

    def test_window(self):
        self.assert_reach(("window", P, (("x", 2, 1),), COUNT), ((2, 6), (-1, 2)))
        self.assert_reach(("window", P, (("y", 1, 9), ("x", 6, 0)), COUNT), ((3, 9), (-3, 3)))
        self.assert_reach(("window", P, (), COUNT), R)

    def test_regrid(self):
        self.assert_reach(("regrid", P, (("y", 2),), COUNT), ((3, 4), (1, 2)))
        self.assert_reach(("regrid", P, (("y", 3), ("x", 4)), COUNT), ((0, 1), (0, 1)))
        self.assert_reach(("regrid", P, (), COUNT), R)

    def test_whole_bounds(self):
        self.assert_reach(("ranked", P, "r"), ((0, 9), (-3, 4)))
        self.assert_reach(("reform", P, (("v", 5, 8, 2), ("x", 1, 2, 1)), COUNT), ((5, 8), (1, 2)))
        self.assert_reach(("sorted", P, ((V, "up"),), "i", 7), ((0, 6),))

    def test_inside_each_other(self):
        query = ("shift", ("window", ("box", P, (("x", 4, 7),)), (("x", 1, 1),), COUNT), (("x", 100),))
        self.assert_reach(query, ((104, 105), (-1, 2)))
        self.assert_reach(("ranked", ("box", P, (("x", 5, 7),)), "r"), None)


class RenewedTest(Case):
    def test_an_answer_that_is_not_reached(self):
        arrays = {"m": Array(SHAPES["m"], {(1,): (1,), (7,): (2,)}), "k": Array(SHAPES["k"], {(5,): (3,)})}
        source = MemorySource(arrays)
        answer = tell(M, arrays)
        found = self.assert_unchanged(renewed, M, answer, source, "k", ((4, 6),))
        self.assert_same(found, answer)
        found.cells.clear()
        self.assert_same(len(answer.cells), 2)
        self.assert_same(source.reads(), [])

    def test_the_part_in_the_reach_is_worked_out_anew(self):
        shape = Shape((("x", 0, 9, 2),), (("v", "int"),))
        before = {"m": Array(shape, {(place,): (place,) for place in range(10)})}
        query = ("window", M, (("x", 1, 0),), (("s", "sum", V),))
        cells = dict(before["m"].cells)
        del cells[(4,)]
        cells[(5,)] = (100,)
        behind = {"m": Array(shape, cells)}
        source = MemorySource(behind)
        found = renewed(query, tell(query, before), source, "m", ((4, 5),))
        self.assert_same(sorted(found.cells.items()), [((0,), (0,)), ((1,), (1,)), ((2,), (3,)), ((3,), (5,)), ((5,), (100,)),
                                                       ((6,), (106,)), ((7,), (13,)), ((8,), (15,)), ((9,), (17,))])
        self.assert_same(source.reads(), [("m", (1,)), ("m", (2,)), ("m", (3,))])

    def test_many_changes(self):
        rolls = random.Random(12)
        counts = {"reached": 0, "not": 0}
        for query in made.queries(900, 51, 3):
            before = made.some_arrays(rolls)
            names = [part[1] for part in made.operators(query) if part[0] == "scan"]
            name = rolls.choice(names if rolls.random() < 0.8 else sorted(made.SHAPES))
            region = made.some_region(rolls, made.SHAPES[name])
            behind = {**before, name: made.changed(rolls, before[name], region)}
            told = self.assert_unchanged(reach, query, made.SHAPES, name, region)
            counts["not" if told is None else "reached"] += 1
            first, second = tell(query, before), tell(query, behind)
            self.assert_outside_is_the_same(told, first, second)
            source = MemorySource(behind)
            found = self.assert_unchanged(renewed, query, first, source, name, region)
            self.assert_same(found.shape, second.shape)
            self.assert_same(sorted(found.cells.items()), sorted(second.cells.items()))
            reads = [] if told is None else reads_of(query, told, source)
            scans = [part[1] if part[0] == "scan" else None for part in made.operators(query)]
            self.assert_same(source.reads(), [(scans[number], chunk) for number, chunk in reads])
        self.assertGreater(min(counts.values()), 100)

    def assert_outside_is_the_same(self, told, first, second):
        def outside(array):
            return sorted([(place, array.cells[place]) for place in array.cells if told is None or not all(
                [low <= at <= high for at, (low, high) in zip(place, told)])])

        self.assert_same(outside(first), outside(second))
