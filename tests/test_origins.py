"""Points 15.1 to 15.3: where answers come from."""

import random

from manysides.arrays import Array
from manysides.origins import cells_in, origins
from manysides.regions import is_within
from manysides.shapes import Shape
from manysides.teller import tell
from tests import made
from tests.helpers import Case

LINE = Shape((("x", 0, 9, 5),), (("v", "int"),))
PLANE = Shape((("x", 0, 4, 2), ("y", -1, 3, 2)), (("w", "int"),))
ARRAYS = {
    "m": Array(LINE, {(2,): (1,), (3,): (None,), (7,): (4,)}),
    "n": Array(Shape((("x", 1, 12, 5),), (("u", "int"),)), {(3,): (5,), (4,): (6,), (12,): (0,)}),
    "k": Array(Shape((("x", 5, 12, 5),), (("v", "int"),)), {(6,): (5,), (12,): (6,)}),
    "p": Array(PLANE, {(0, 0): (1,), (2, -1): (2,), (2, 1): (3,), (4, 3): (4,)}),
    "none": Array(LINE, {}),
}
M, N, K, P, NONE = ("scan", "m"), ("scan", "n"), ("scan", "k"), ("scan", "p"), ("scan", "none")
V, X = ("attr", "v"), ("dim", "x")
COUNT = (("n", "count", None),)


class OriginsTest(Case):
    def assert_origins(self, query, region, *wanted):
        found = self.assert_unchanged(origins, query, ARRAYS, region)
        self.assert_same(found, list(wanted))

    def test_example(self):
        s = Shape((("x", 0, 9, 5),), (("v", "int"),))
        t = Shape((("x", 0, 9, 5),), (("w", "int"),))
        arrays = {"m": Array(s, {(3,): (1,)}), "n": Array(t, {(3,): (5,), (4,): (6,)})}
        q = ("join", M, N)
        self.assert_same([origins(q, arrays, ((3, 4),)), origins(q, arrays, ((4, 4),))],
                         [[(1, ((3, 4),)), (2, ((3, 3),))], [(1, ((4, 4),))]])

    def test_the_same_region(self):
        self.assert_origins(M, ((3, 5),), (0, ((3, 5),)))
        for query in (("box", M, (("x", 1, 8),)), ("keep", M, ("gt", X, V)), ("with", M, (("g", X),)), ("only", M, ("v",)),
                      ("named", M, (("x", "y"),)), ("filled", M, (0,))):
            self.assert_origins(query, ((3, 5),), (1, ((3, 5),)))

    def test_shift_and_turned(self):
        self.assert_origins(("shift", P, (("y", 4), ("x", -1))), ((0, 1), (3, 5)), (1, ((1, 2), (-1, 1))))
        self.assert_origins(("turned", P, ("y", "x")), ((0, 1), (3, 4)), (1, ((3, 4), (0, 1))))

    def test_join(self):
        both = ("join", M, N)
        self.assert_origins(both, ((1, 9),), (1, ((1, 9),)), (2, ((2, 2),)), (2, ((3, 3),)), (2, ((7, 7),)))
        self.assert_origins(both, ((4, 6),), (1, ((4, 6),)))
        self.assert_origins(("join", NONE, N), ((1, 9),), (1, ((1, 9),)))
        self.assert_origins(("join", ("keep", M, ("gt", V, ("value", "int", 3))), ("box", N, (("x", 3, 9),))), ((3, 9),),
                            (2, ((3, 9),)), (4, ((7, 7),)))

    def test_either(self):
        both = ("either", M, K)
        self.assert_origins(both, ((3, 11),), (1, ((3, 9),)), (2, ((5, 11),)))
        self.assert_origins(both, ((1, 4),), (1, ((1, 4),)))
        self.assert_origins(both, ((10, 12),), (2, ((10, 12),)))
        self.assert_origins(both, ((7, 7),), (1, ((7, 7),)))
        self.assert_origins(both, ((6, 7),), (1, ((6, 7),)), (2, ((6, 7),)))
        self.assert_origins(both, ((3, 7),), (1, ((3, 7),)), (2, ((5, 7),)))
        self.assert_origins(("either", ("filled", M, (0,)), K), ((0, 9),), (2, ((0, 9),)))
        self.assert_origins(("either", ("filled", M, (0,)), K), ((0, 10),), (2, ((0, 9),)), (3, ((5, 10),)))
        self.assert_origins(("either", NONE, K), ((5, 5),), (1, ((5, 5),)), (2, ((5, 5),)))
        gap = ("either", ("box", M, (("x", 0, 1),)), ("box", K, (("x", 8, 9),)))
        self.assert_origins(gap, ((3, 5),))

    def test_across(self):
        self.assert_origins(("across", M, ("named", P, (("x", "z"),))), ((3, 6), (0, 1), (2, 2)),
                            (1, ((3, 6),)), (3, ((0, 1), (2, 2))))
        self.assert_origins(("across", M, ("named", P, (("x", "z"),))), ((4, 6), (0, 1), (2, 2)), (1, ((4, 6),)))
        self.assert_origins(("across", P, ("named", M, (("x", "z"),))), ((0, 1), (-1, 0), (2, 2)),
                            (1, ((0, 1), (-1, 0))), (3, ((2, 2),)))

    def test_match(self):
        self.assert_origins(("match", P, ("named", M, (("x", "z"),)), (("x", "z"),)), ((1, 4), (-1, 2)),
                            (1, ((1, 4), (-1, 2))), (3, ((2, 2),)))
        query = ("match", M, P, (("x", "x"),))
        self.assert_origins(query, ((1, 4), (0, 2)), (1, ((1, 4),)), (2, ((2, 2), (0, 2))), (2, ((3, 3), (0, 2))))
        self.assert_origins(query, ((0, 1), (0, 2)), (1, ((0, 1),)))
        query = ("match", P, ("named", P, (("x", "z"), ("y", "q"), ("w", "k"))), (("y", "q"), ("x", "z")))
        self.assert_origins(query, ((1, 4), (-1, 3)), (1, ((1, 4), (-1, 3))), (3, ((2, 2), (-1, -1))),
                            (3, ((2, 2), (1, 1))), (3, ((4, 4), (3, 3))))
        query = ("match", P, ("named", P, (("x", "z"), ("y", "q"), ("w", "k"))), (("y", "z"),))
        self.assert_origins(query, ((0, 2), (0, 1), (-1, 0)), (1, ((0, 2), (0, 1))), (3, ((0, 0), (-1, 0))),
                            (3, ((1, 1), (-1, 0))))

    def test_group(self):
        self.assert_origins(("group", P, ("y",), COUNT), ((0, 1),), (1, ((0, 4), (0, 1))))
        self.assert_origins(("group", P, ("y", "x"), COUNT), ((0, 1), (2, 2)), (1, ((2, 2), (0, 1))))
        self.assert_origins(("group", P, (), COUNT), ((0, 0),), (1, ((0, 4), (-1, 3))))

    def test_window(self):
        near = ("window", M, (("x", 2, 3),), COUNT)
        self.assert_origins(near, ((3, 8),), (1, ((3, 8),)), (1, ((1, 6),)), (1, ((5, 9),)))
        self.assert_origins(near, ((1, 2),), (1, ((1, 2),)), (1, ((0, 5),)))
        self.assert_origins(near, ((4, 6),), (1, ((4, 6),)))
        self.assert_origins(("window", M, (("x", 99, 99),), COUNT), ((0, 9),), (1, ((0, 9),)))
        self.assert_origins(("window", M, (), COUNT), ((2, 3),), (1, ((2, 3),)), (1, ((2, 2),)), (1, ((3, 3),)))
        self.assert_origins(("window", P, (("y", 1, 0),), COUNT), ((2, 2), (-1, 1)),
                            (1, ((2, 2), (-1, 1))), (1, ((2, 2), (-1, -1))), (1, ((2, 2), (0, 1))))

    def test_regrid(self):
        self.assert_origins(("regrid", P, (("y", 2),), COUNT), ((1, 2), (1, 2)), (1, ((1, 2), (1, 3))))
        self.assert_origins(("regrid", P, (("x", 3), ("y", 4)), COUNT), ((0, 0), (0, 0)), (1, ((0, 2), (-1, 2))))

    def test_whole_bounds(self):
        self.assert_origins(("ranked", M, "r"), ((3, 5),), (1, ((3, 5),)), (1, ((0, 9),)))
        self.assert_origins(("ranked", M, "r"), ((4, 5),), (1, ((4, 5),)))
        self.assert_origins(("ranked", M, "r"), ((0, 9),), (1, ((0, 9),)))
        self.assert_origins(("reform", M, (("v", 0, 5, 5),), COUNT), ((3, 3),), (1, ((0, 9),)))
        self.assert_origins(("sorted", M, ((V, "up"),), "i", 5), ((3, 3),), (1, ((0, 9),)))

    def test_a_scan_that_stands_twice(self):
        query = ("join", M, ("named", M, (("v", "u"),)))
        self.assert_origins(query, ((3, 7),), (1, ((3, 7),)), (3, ((3, 3),)), (3, ((7, 7),)))

    def test_equal_ones_are_left_out_wherever_they_stand(self):
        wide = ("window", ("window", M, (("x", 5, 5),), (("v", "sum", V),)), (("x", 1, 1),), (("v", "sum", V),))
        self.assert_origins(wide, ((2, 3),), (2, ((2, 3),)), (2, ((0, 7),)), (2, ((0, 8),)), (2, ((1, 3),)), (2, ((2, 4),)))
        both = ("join", ("join", M, ("named", NONE, (("v", "u"),))), ("named", M, (("v", "k"),)))
        self.assert_origins(both, ((2, 3),), (2, ((2, 3),)), (4, ((2, 2),)), (4, ((3, 3),)))

    def test_deep_windows_end_soon(self):
        shape = Shape((("x", 0, 39, 5),), (("v", "int"),))
        arrays = {"m": Array(shape, {(place,): (1,) for place in range(40)})}
        query = M
        for _ in range(6):
            query = ("window", query, (("x", 1, 1),), (("v", "greatest", V),))
        found = origins(query, arrays, ((0, 39),))
        self.assert_same(found[0], (6, ((0, 39),)))
        self.assertEqual(len(found), len(set(found)))

    def test_many_changes_outside_of_the_origins(self):
        rolls = random.Random(13)
        different = 0
        for query in made.queries(900, 61, 3):
            arrays = made.some_arrays(rolls)
            answer = tell(query, arrays)
            region = made.some_region(rolls, answer.shape)
            found = self.assert_unchanged(origins, query, arrays, region)
            self.assertEqual(len(found), len(set(found)))
            scans = [part[1] if part[0] == "scan" else None for part in made.operators(query)]
            others = {}
            for name in arrays:
                told = [asked for number, asked in found if scans[number] == name]
                others[name] = self.changed_outside(rolls, arrays[name], told)
            other = tell(query, others)
            different += other != answer
            self.assert_same(cells_in(other.cells, region), cells_in(answer.cells, region))
        self.assertGreater(different, 300)

    def changed_outside(self, rolls, array, regions):
        cells = dict(array.cells)
        for place in made.places_in(array.shape):
            if rolls.random() < 0.6 and not any(is_within(place, region) for region in regions):
                cells.pop(place, None)
                if rolls.random() < 0.6:
                    cells[place] = made.values_for(rolls, array.shape)
        return Array(array.shape, cells)


class CellsInTest(Case):
    def test_cells_in_a_region(self):
        cells = {(2, 1): (3,), (0, 0): (1,), (2, -1): (2,), (4, 3): (4,)}
        for region, wanted in ((((0, 4), (-1, 3)), [(0, 0), (2, -1), (2, 1), (4, 3)]), (((2, 2), (-1, 1)), [(2, -1), (2, 1)]),
                               (((2, 4), (1, 3)), [(2, 1), (4, 3)]), (((2, 2), (0, 0)), []), (((4, 4), (3, 3)), [(4, 3)])):
            found = self.assert_unchanged(cells_in, cells, region)
            self.assert_same(list(found.items()), [(place, cells[place]) for place in wanted])
        self.assert_same(cells_in({}, ((0, 4),)), {})
        found = cells_in(cells, ((0, 4), (-1, 3)))
        found.clear()
        self.assertEqual(len(cells), 4)
