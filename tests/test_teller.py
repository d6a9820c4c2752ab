"""Points 11.1 to 11.4: the answers of queries, worked out by hand and a second time in another way."""

import random

from manysides.arrays import Array
from manysides.errors import InvalidQuery
from manysides.queries import shape_of
from manysides.shapes import Shape
from manysides.teller import aggregate, tell
from tests import made, second
from tests.helpers import Case, EDGE

LINE = Shape((("x", 0, 9, 5),), (("v", "int"),))
MIXED = Shape((("x", 0, 9, 5),), (("v", "int"), ("f", "flag"), ("t", "text")))
PLANE = Shape((("x", 0, 3, 2), ("y", -1, 2, 2)), (("v", "int"),))
ARRAYS = {
    "m": Array(MIXED, {(7,): (0, True, None), (2,): (1, False, "b"), (3,): (None, None, "a"), (9,): (1, True, "b")}),
    "n": Array(Shape((("x", 2, 12, 5),), (("w", "int"),)), {(2,): (20,), (4,): (40,), (9,): (None,), (12,): (5,)}),
    "p": Array(PLANE, {(0, -1): (1,), (0, 2): (2,), (1, 0): (None,), (3, 0): (4,), (3, 1): (-8,)}),
    "none": Array(MIXED, {}),
    "z": Array(Shape((("z", 0, 3, 2),), (("u", "int"),)), {(0,): (7,), (3,): (9,)}),
}
M, N, P, Z, NONE = ("scan", "m"), ("scan", "n"), ("scan", "p"), ("scan", "z"), ("scan", "none")
V, F, T, X = ("attr", "v"), ("attr", "f"), ("attr", "t"), ("dim", "x")
COUNT = (("n", "count", None),)
ALL = (("a", "count", None), ("b", "known", T), ("c", "sum", V), ("d", "least", T), ("e", "greatest", V),
       ("g", "first", V), ("h", "all", F), ("i", "any", F))


class TellCase(Case):
    def assert_cells(self, query, cells):
        found = self.assert_unchanged(tell, query, ARRAYS)
        self.assert_same(found.shape, shape_of(query, {name: ARRAYS[name].shape for name in ARRAYS}))
        self.assert_same(sorted(found.cells.items()), sorted(cells.items()))


class OperatorsTest(TellCase):
    def test_example(self):
        rain = Array(Shape((("x", 0, 9, 5),), (("mm", "int"),)), {(0,): (4,), (2,): (None,), (3,): (6,)})
        aggregates = (("n", "count", ("dim", "x")), ("s", "sum", ("attr", "mm")))
        found = tell(("window", ("scan", "rain"), (("x", 1, 0),), aggregates), {"rain": rain})
        self.assert_same(found.cells, {(0,): (1, 4), (2,): (1, None), (3,): (2, 6)})

    def test_scan(self):
        self.assert_cells(M, ARRAYS["m"].cells)
        tell(M, ARRAYS).cells.clear()
        self.assertEqual(len(ARRAYS["m"].cells), 4)

    def test_a_query_without_a_shape(self):
        self.assert_error(InvalidQuery, 1, tell, ("box", ("keep", M, V), ()), ARRAYS)
        self.assert_error(InvalidQuery, 0, tell, M, {})

    def test_box(self):
        self.assert_cells(("box", M, (("x", 3, 7),)), {(3,): (None, None, "a"), (7,): (0, True, None)})
        self.assert_cells(("box", P, (("y", 0, 0), ("x", 1, 9))), {(1, 0): (None,), (3, 0): (4,)})
        self.assert_cells(("box", P, (("x", 2, 2),)), {})
        self.assert_cells(("box", P, ()), ARRAYS["p"].cells)

    def test_shift(self):
        self.assert_cells(("shift", P, (("y", 5), ("x", -1))),
                          {(-1, 4): (1,), (-1, 7): (2,), (0, 5): (None,), (2, 5): (4,), (2, 6): (-8,)})

    def test_keep(self):
        self.assert_cells(("keep", M, F), {(7,): (0, True, None), (9,): (1, True, "b")})
        self.assert_cells(("keep", M, ("not", F)), {(2,): (1, False, "b")})
        self.assert_cells(("keep", M, ("eq", V, ("value", "int", 1))), {(2,): (1, False, "b"), (9,): (1, True, "b")})
        self.assert_cells(("keep", M, ("value", "flag", None)), {})

    def test_with(self):
        self.assert_cells(("with", M, (("v", F), ("g", ("add", V, X)), ("f", ("is missing", F)))),
                          {(2,): (False, False, "b", 3), (3,): (None, True, "a", None), (7,): (True, False, None, 7),
                           (9,): (True, False, "b", 10)})

    def test_only_and_named(self):
        self.assert_cells(("only", M, ("t", "v")), {(2,): ("b", 1), (3,): ("a", None), (7,): (None, 0), (9,): ("b", 1)})
        self.assert_cells(("named", P, (("x", "y"), ("y", "x"), ("v", "w"))), ARRAYS["p"].cells)

    def test_join(self):
        self.assert_cells(("join", M, N), {(2,): (1, False, "b", 20), (9,): (1, True, "b", None)})
        self.assert_cells(("join", N, M), {(2,): (20, 1, False, "b"), (9,): (None, 1, True, "b")})
        self.assert_cells(("join", NONE, N), {})
        self.assert_cells(("join", ("keep", M, ("gt", X, ("value", "int", 2))), ("box", N, (("x", 2, 8),))), {})

    def test_either(self):
        other = ("named", ("with", N, (("w", ("dim", "x")),)), (("w", "v"),))
        self.assert_cells(("either", ("only", M, ("v",)), other),
                          {(2,): (1,), (3,): (None,), (7,): (0,), (9,): (1,), (4,): (4,), (12,): (12,)})
        self.assert_cells(("either", other, ("only", M, ("v",))),
                          {(2,): (2,), (3,): (None,), (7,): (0,), (9,): (9,), (4,): (4,), (12,): (12,)})
        self.assert_cells(("either", NONE, M), ARRAYS["m"].cells)

    def test_across(self):
        self.assert_cells(("across", Z, ("only", ("box", M, (("x", 3, 8),)), ("t",))),
                          {(0, 3): (7, "a"), (0, 7): (7, None), (3, 3): (9, "a"), (3, 7): (9, None)})
        self.assert_cells(("across", Z, NONE), {})

    def test_match(self):
        self.assert_cells(("match", P, Z, (("x", "z"),)), {
            (0, -1): (1, 7), (0, 2): (2, 7), (3, 0): (4, 9), (3, 1): (-8, 9)})
        self.assert_cells(("match", Z, P, (("z", "x"),)), {
            (0, -1): (7, 1), (0, 2): (7, 2), (3, 0): (9, 4), (3, 1): (9, -8)})
        self.assert_cells(("match", Z, ("named", P, (("v", "s"),)), (("z", "y"),)), {(0, 1): (7, None), (0, 3): (7, 4)})
        other = ("named", ("shift", P, (("y", 1),)), (("v", "s"),))
        self.assert_cells(("match", P, other, (("x", "y"), ("y", "x"))), {(3, 0): (4, 2)})
        self.assert_cells(("match", P, ("named", P, (("v", "s"),)), (("x", "y"), ("y", "x"))), {})
        self.assert_cells(("match", Z, ("shift", P, (("x", 1),)), (("z", "x"),)), {})

    def test_group(self):
        self.assert_cells(("group", P, ("y",), (("n", "count", None), ("s", "sum", V), ("k", "first", X))),
                          {(-1,): (1, 1, 0), (2,): (1, 2, 0), (0,): (2, 4, 1), (1,): (1, -8, 3)})
        self.assert_cells(("group", P, ("y", "x"), COUNT), {place[::-1]: (1,) for place in ARRAYS["p"].cells})
        self.assert_cells(("group", M, (), ALL), {(0,): (4, 3, 2, "a", 1, 1, False, True)})
        self.assert_cells(("group", NONE, (), ALL), {})
        self.assert_cells(("group", NONE, ("x",), ALL), {})

    def test_window(self):
        first = (("n", "count", None), ("k", "first", X), ("s", "sum", V))
        self.assert_cells(("window", M, (("x", 4, 2),), first), {
            (2,): (2, 2, 1), (3,): (2, 2, 1), (7,): (3, 3, 1), (9,): (2, 7, 1)})
        self.assert_cells(("window", M, (("x", 0, 1),), first), {
            (2,): (2, 2, 1), (3,): (1, 3, None), (7,): (1, 7, 0), (9,): (1, 9, 1)})
        self.assert_cells(("window", P, (("x", 1000000, 0),), (("n", "count", None),)), {
            (0, -1): (1,), (0, 2): (1,), (1, 0): (1,), (3, 0): (2,), (3, 1): (1,)})
        self.assert_cells(("window", P, (), COUNT), {place: (1,) for place in ARRAYS["p"].cells})

    def test_regrid(self):
        self.assert_cells(("regrid", P, (("y", 2),), (("n", "count", None), ("k", "first", ("dim", "y")))), {
            (0, 0): (1, -1), (0, 1): (1, 2), (1, 0): (1, 0), (3, 0): (1, 0), (3, 1): (1, 1)})
        self.assert_cells(("regrid", P, (("x", 4), ("y", 3)), (("s", "sum", V), ("k", "first", V))), {
            (0, 0): (-3, 1), (0, 1): (2, 2)})
        self.assert_cells(("regrid", P, (), COUNT), {place: (1,) for place in ARRAYS["p"].cells})

    def test_reform(self):
        self.assert_cells(("reform", M, (("v", 0, 1, 1),), (("k", "first", X), ("n", "count", None))), {
            (1,): (2, 2), (0,): (7, 1)})
        self.assert_cells(("reform", M, (("x", 0, 7, 3), ("v", 1, 5, 9)), COUNT), {(2, 1): (1,)})
        self.assert_cells(("reform", M, (("v", 2, 5, 1),), COUNT), {})
        self.assert_cells(("reform", P, (("y", 0, 1, 1),), (("s", "sum", V),)), {(0,): (4,), (1,): (-8,)})

    def test_turned_and_filled(self):
        self.assert_cells(("turned", P, ("y", "x")), {place[::-1]: ARRAYS["p"].cells[place] for place in ARRAYS["p"].cells})
        self.assert_cells(("filled", Z, (None,)), {(0,): (7,), (1,): (None,), (2,): (None,), (3,): (9,)})
        self.assert_cells(("filled", ("box", NONE, (("x", 1, 2),)), (4, False, "a")),
                          {(1,): (4, False, "a"), (2,): (4, False, "a")})

    def test_ranked(self):
        self.assert_cells(("ranked", P, "r"), {(0, -1): (1, 0), (0, 2): (2, 1), (1, 0): (None, 2), (3, 0): (4, 3),
                                               (3, 1): (-8, 4)})
        self.assert_cells(("box", ("ranked", Z, "r"), (("z", 2, 3),)), {(3,): (9, 1)})
        self.assert_cells(("only", ("ranked", M, "r"), ("r",)), {(2,): (0,), (3,): (1,), (7,): (2,), (9,): (3,)})


class SortedTest(TellCase):
    def assert_order(self, keys, xs, limit=100):
        values = ARRAYS["m"].cells
        self.assert_cells(("sorted", M, keys, "i", limit), {(index,): (x,) + values[(x,)] for index, x in enumerate(xs)})

    def test_ways_and_missing_keys(self):
        self.assert_order(((V, "up"),), (7, 2, 9, 3))
        self.assert_order(((V, "down"),), (2, 9, 7, 3))
        self.assert_order(((F, "up"),), (2, 7, 9, 3))
        self.assert_order(((F, "down"),), (7, 9, 2, 3))
        self.assert_order(((T, "up"),), (3, 2, 9, 7))
        self.assert_order(((T, "down"),), (2, 9, 3, 7))
        self.assert_order(((X, "down"),), (9, 7, 3, 2))
        self.assert_order(((("value", "int", None), "down"),), (2, 3, 7, 9))

    def test_several_keys(self):
        self.assert_order(((V, "up"), (X, "down")), (7, 9, 2, 3))
        self.assert_order(((V, "down"), (F, "down")), (9, 2, 7, 3))
        self.assert_order(((T, "down"), (V, "up"), (X, "down")), (9, 2, 3, 7))
        self.assert_order(((("is missing", V), "up"), (T, "up"), (F, "down")), (9, 2, 7, 3))

    def test_limits(self):
        for limit in (1, 2, 3, 4, 5, 100000):
            self.assert_order(((V, "up"),), (7, 2, 9, 3)[:limit], limit)
        self.assert_cells(("sorted", NONE, ((V, "up"),), "i", 3), {})

    def test_coordinates_become_values(self):
        self.assert_cells(("sorted", P, ((V, "down"),), "i", 2), {(0,): (3, 0, 4), (1,): (0, 2, 2)})


class AggregateTest(Case):
    def assert_all(self, values, wanted):
        words = ("count", "known", "sum", "least", "greatest", "first")
        self.assert_same([self.assert_unchanged(aggregate, word, values) for word in words], wanted)

    def test_integers(self):
        self.assert_all([3, None, -5, 4, None], [5, 3, 2, -5, 4, 3])
        self.assert_all([None, 0], [2, 1, 0, 0, 0, 0])
        self.assert_all([None, None], [2, 0, None, None, None, None])
        self.assert_all([7], [1, 1, 7, 7, 7, 7])

    def test_sums_at_the_bounds(self):
        for values, total in (([EDGE, 0], EDGE), ([EDGE, 1], None), ([-EDGE, -1], None), ([-EDGE, None], -EDGE),
                              ([EDGE, 1, -1], EDGE), ([EDGE, EDGE, -EDGE], EDGE), ([1, EDGE - 1], EDGE)):
            self.assert_same(aggregate("sum", values), total)

    def test_texts_and_flags(self):
        for values, least, greatest, first in (("b Z a".split(), "Z", "b", "b"), (["a", "", None, "ab"], "", "ab", "a"),
                                               ([None, True, False], False, True, True), ([True], True, True, True)):
            self.assert_same([aggregate(word, values) for word in ("least", "greatest", "first")], [least, greatest, first])

    def test_all_and_any(self):
        for values, every, some in (([True, True], True, True), ([True, None], True, True), ([True, False], False, True),
                                    ([False, None], False, False), ([None], None, None)):
            self.assert_same([aggregate("all", values), aggregate("any", values)], [every, some])


class SecondTellingTest(Case):
    def test_many_queries(self):
        rolls = random.Random(5)
        words = set()
        for depth in (1, 2, 3):
            for query in made.queries(400, depth, depth):
                words |= made.words_of([query])
                arrays = made.some_arrays(rolls)
                found = self.assert_unchanged(tell, query, arrays)
                self.assert_same(found.shape, shape_of(query, made.SHAPES))
                self.assert_same(sorted(found.cells.items()), sorted(second.answer(query, arrays).items()))
        self.assertEqual(words, set(second.WORDS))

    def test_large_arrays(self):
        shape = Shape((("x", 0, 299, 100), ("y", 0, 299, 100)), (("v", "int"),))
        array = Array(shape, {(x, y): (x * y,) for x in range(300) for y in range(0, 300, 5)})
        near = tell(("window", ("scan", "m"), (("x", 1, 1), ("y", 5, 5)), COUNT), {"m": array})
        self.assert_same([near.cells[place] for place in ((0, 0), (0, 5), (5, 5), (299, 295))], [(4,), (6,), (9,), (4,)])
        self.assertEqual(len(tell(("filled", ("scan", "m"), (0,)), {"m": array}).cells), 90000)
        top = tell(("sorted", ("scan", "m"), ((V, "down"),), "i", 2), {"m": array})
        self.assert_same(top.cells, {(0,): (299, 295, 299 * 295), (1,): (298, 295, 298 * 295)})
