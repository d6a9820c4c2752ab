"""Points 13.1 to 13.8: answers in parts."""

import random
from unittest import mock

from manysides.arrays import Array
from manysides.chunks import split
from manysides.errors import InvalidQuery
from manysides.parts import answer_chunks, part, plan, reads_of, run
from manysides.queries import shape_of
from manysides.regions import whole_region
from manysides.rules import rewritten
from manysides.shapes import Shape
from manysides.sources import MemorySource
from manysides.teller import tell
from tests import made
from tests.helpers import Case

LINE = Shape((("x", 0, 9, 1),), (("v", "int"),))
PLANE = Shape((("x", 0, 5, 1), ("y", -2, 3, 1)), (("w", "int"),))


def full(shape):
    """Returns an Array of a shape that has a cell at each place, with its first coordinate as value."""
    return Array(shape, {place: (place[0],) for place in made.places_in(shape)})


# In these arrays each place is a chunk, so that the chunks that are read tell the region that is asked for.
FULL = {"m": full(LINE), "n": full(Shape((("x", 3, 14, 1),), (("u", "int"),))), "p": full(PLANE),
        "q": full(Shape((("y", -1, 4, 1), ("z", 0, 2, 1)), (("s", "int"),))),
        "k": full(Shape((("x", 5, 12, 1),), (("v", "int"),)))}
M, N, P, Q, K = ("scan", "m"), ("scan", "n"), ("scan", "p"), ("scan", "q"), ("scan", "k")
V, X = ("attr", "v"), ("dim", "x")
COUNT = (("n", "count", None),)


def num(n):
    return ("value", "int", n)


def gt(name, n):
    return ("gt", ("attr", name), num(n))


class AskedTest(Case):
    """The regions that are asked of the parts, told by the chunks that are read."""

    def assert_asked(self, query, region, *asked):
        """Each one that is asked is a pair of the number of a scan and a region of its array."""
        wanted = []
        source = MemorySource(FULL)
        for number, name, told in asked:
            lows = [dim[1] for dim in FULL[name].shape.dims]
            places = made.places_in(Shape(tuple([("d", low, high, 1) for low, high in told]), ()))
            wanted += [(number, tuple([at - low for at, low in zip(place, lows)])) for place in places]
        self.assert_same(self.assert_unchanged(reads_of, query, region, source), wanted)
        self.assert_same(source.reads(), [])
        cells = part(query, region, source)
        names = {number: name for number, name, _ in asked}
        self.assert_same(source.reads(), [(names[number], chunk) for number, chunk in wanted])
        whole = tell(query, FULL).cells
        self.assert_same(sorted(cells.items()), sorted([(place, whole[place]) for place in whole if all(
            [low <= at <= high for at, (low, high) in zip(place, region)])]))

    def test_the_same_region(self):
        for query in (M, ("box", M, (("x", 1, 8),)), ("with", M, (("g", X),)), ("only", M, ("v",)),
                      ("named", M, (("x", "y"),)), ("filled", M, (0,)), ("keep", M, ("gt", X, num(-1)))):
            self.assert_asked(query, ((3, 5),), (int(query != M), "m", ((3, 5),)))

    def test_whole_bounds_are_those_of_the_query(self):
        query = ("box", M, (("x", 2, 4),))
        source = MemorySource(FULL)
        run(query, source)
        self.assert_same(source.reads(), [("m", (2,)), ("m", (3,)), ("m", (4,))])

    def test_shift_and_turned(self):
        self.assert_asked(("shift", P, (("y", 10), ("x", -2))), ((0, 1), (9, 12)), (1, "p", ((2, 3), (-1, 2))))
        self.assert_asked(("turned", P, ("y", "x")), ((-1, 0), (4, 5)), (1, "p", ((4, 5), (-1, 0))))

    def test_join_and_either(self):
        self.assert_asked(("join", M, N), ((4, 5),), (1, "m", ((4, 5),)), (2, "n", ((4, 5),)))
        self.assert_asked(("either", M, K), ((3, 11),), (1, "m", ((3, 9),)), (2, "k", ((5, 11),)))
        self.assert_asked(("either", M, K), ((1, 4),), (1, "m", ((1, 4),)))
        self.assert_asked(("either", M, K), ((10, 11),), (2, "k", ((10, 11),)))
        gap = ("either", ("box", M, (("x", 0, 2),)), ("keep", ("box", K, (("x", 8, 12),)), gt("v", 0)))
        self.assert_asked(gap, ((4, 6),))
        self.assert_asked(gap, ((2, 8),), (2, "m", ((2, 2),)), (5, "k", ((8, 8),)))

    def test_across_and_match(self):
        self.assert_asked(("across", M, Q), ((1, 2), (0, 1), (2, 2)), (1, "m", ((1, 2),)), (2, "q", ((0, 1), (2, 2))))
        self.assert_asked(("match", P, Q, (("y", "y"),)), ((4, 5), (0, 2), (1, 2)),
                          (1, "p", ((4, 5), (0, 2))), (2, "q", ((0, 2), (1, 2))))
        self.assert_asked(("match", M, Q, (("x", "z"),)), ((1, 2), (0, 3)),
                          (1, "m", ((1, 2),)), (2, "q", ((0, 3), (1, 2))))
        self.assert_asked(("match", P, Q, (("x", "z"), ("y", "y"))), ((1, 2), (3, 3)),
                          (1, "p", ((1, 2), (3, 3))), (2, "q", ((3, 3), (1, 2))))

    def test_group(self):
        self.assert_asked(("group", P, ("y",), COUNT), ((-1, 0),), (1, "p", ((0, 5), (-1, 0))))
        self.assert_asked(("group", P, ("y", "x"), COUNT), ((-1, 0), (2, 2)), (1, "p", ((2, 2), (-1, 0))))
        self.assert_asked(("group", P, (), COUNT), ((0, 0),), (1, "p", ((0, 5), (-2, 3))))

    def test_window_and_regrid(self):
        query = ("window", P, (("y", 1, 2), ("x", 2, 0)), COUNT)
        self.assert_asked(query, ((3, 4), (0, 0)), (1, "p", ((1, 4), (-1, 2))))
        self.assert_asked(query, ((0, 5), (2, 3)), (1, "p", ((0, 5), (1, 3))))
        self.assert_asked(query, ((1, 1), (-2, -2)), (1, "p", ((0, 1), (-2, 0))))
        self.assert_asked(("regrid", P, (("y", 4),), COUNT), ((1, 2), (0, 0)), (1, "p", ((1, 2), (-2, 1))))
        self.assert_asked(("regrid", P, (("y", 4), ("x", 2)), COUNT), ((1, 2), (1, 1)), (1, "p", ((2, 5), (2, 3))))
        self.assert_asked(("regrid", P, (), COUNT), ((1, 2), (1, 1)), (1, "p", ((1, 2), (1, 1))))

    def test_whole_bounds(self):
        everything = (1, "p", ((0, 5), (-2, 3)))
        self.assert_asked(("reform", P, (("w", 0, 3, 2), ("y", -5, 5, 2)), COUNT), ((1, 1), (0, 1)), everything)
        self.assert_asked(("ranked", P, "r"), ((1, 1), (0, 1)), everything)
        self.assert_asked(("sorted", P, ((("attr", "w"), "down"),), "i", 40), ((3, 7),), everything)

    def test_inside_each_other(self):
        query = ("shift", ("window", ("box", P, (("x", 1, 4),)), (("x", 2, 2),), COUNT), (("x", 1),))
        self.assert_asked(query, ((3, 3), (0, 0)), (3, "p", ((1, 4), (0, 0))))

    def test_a_scan_that_stands_twice_is_read_twice(self):
        query = ("join", M, ("named", ("shift", M, (("x", 1),)), (("v", "w"),)))
        self.assert_asked(query, ((3, 4),), (1, "m", ((3, 4),)), (4, "m", ((2, 3),)))


class ConditionsTest(Case):
    """Chunks that are passed over by the conditions that are handed on."""

    def setUp(self):
        shape = Shape((("x", 0, 9, 2),), (("v", "int"), ("u", "int")))
        cells = {(place,): (place, 100 - place) for place in (0, 1, 2, 5, 6, 9)}
        cells[(7,)] = (None, 5)
        self.arrays = {"m": Array(shape, cells), "n": Array(Shape(shape.dims, (("w", "int"),)), {(8,): (0,), (0,): (0,)})}

    def assert_reads(self, query, *wanted, region=None):
        source = MemorySource(self.arrays)
        shape = shape_of(query, source.shapes())
        told = reads_of(query, region or whole_region(shape), source)
        self.assert_same(told, list(wanted))
        self.assert_same(source.reads(), [])
        cells = part(query, region or whole_region(shape), source)
        self.assertEqual([chunk for _, chunk in source.reads()], [chunk for _, chunk in wanted])
        if region is None:
            self.assert_same(sorted(cells.items()), sorted(tell(query, self.arrays).cells.items()))

    def test_example(self):
        s = MemorySource({"m": Array(Shape((("x", 0, 9, 5),), (("v", "int"),)), {(1,): (7,), (6,): (2,)})})
        self.assert_same((run(("keep", M, gt("v", 4)), s).cells, s.reads()), ({(1,): (7,)}, [("m", (0,))]))

    def test_no_condition(self):
        self.assert_reads(M, (0, (0,)), (0, (1,)), (0, (2,)), (0, (3,)), (0, (4,)))
        self.assert_reads(M, (0, (1,)), (0, (2,)), region=((3, 5),))
        self.assert_reads(("scan", "n"), (0, (0,)), (0, (4,)))
        self.assert_reads(("scan", "n"), region=((2, 7),))
        self.assert_reads(("scan", "n"), (0, (4,)), region=((9, 9),))

    def test_keep(self):
        self.assert_reads(("keep", M, gt("v", 4)), (1, (2,)), (1, (3,)), (1, (4,)))
        self.assert_reads(("keep", M, gt("v", 6)), (1, (4,)))
        self.assert_reads(("keep", M, gt("v", 9)))
        self.assert_reads(("keep", M, ("is missing", V)), (1, (3,)))
        self.assert_reads(("keep", M, ("not", gt("v", 4))), (1, (0,)), (1, (1,)))
        self.assert_reads(("keep", M, ("gt", X, num(7))), (1, (4,)))
        self.assert_reads(("keep", M, ("gt", X, num(7))), region=((2, 5),))

    def test_the_span_is_that_of_the_whole_chunk(self):
        self.assert_reads(("keep", ("box", M, (("x", 0, 0),)), ("eq", V, num(1))), (2, (0,)))
        self.assert_reads(("keep", ("box", M, (("x", 8, 8),)), ("eq", X, num(9))), (2, (4,)))
        self.assert_reads(("keep", M, ("eq", X, num(3))), (1, (1,)))
        self.assert_reads(("keep", M, ("eq", X, num(3))), (1, (1,)), region=((2, 2),))

    def test_conditions_are_handed_on_through_keep_and_box(self):
        low = ("lt", V, num(6))
        self.assert_reads(("keep", ("keep", M, gt("v", 1)), low), (2, (1,)), (2, (2,)))
        self.assert_reads(("keep", ("box", M, (("x", 0, 7),)), gt("v", 1)), (2, (1,)), (2, (2,)), (2, (3,)))
        self.assert_reads(("box", ("keep", M, gt("v", 1)), (("x", 0, 5),)), (2, (1,)), (2, (2,)))
        self.assert_reads(("keep", ("box", ("keep", ("box", M, ()), low), (("x", 4, 9),)), gt("v", 1)), (4, (2,)))

    def test_other_operators_hand_on_none(self):
        every = [(2, (index,)) for index in range(5)]
        for inner in (("with", M, (("g", X),)), ("only", M, ("v",)), ("named", M, ()), ("shift", M, ()),
                      ("turned", M, ("x",)), ("filled", M, (0, 0)), ("ranked", M, "r"), ("regrid", M, (), (("v", "sum", V),)),
                      ("window", M, (), (("v", "sum", V),)), ("group", M, ("x",), (("v", "sum", V),)),
                      ("reform", M, (("x", 0, 9, 1),), (("v", "sum", V),)), ("sorted", M, ((V, "up"),), "i", 9)):
            self.assert_reads(("keep", inner, ("gt", num(0), num(1))), *every)
            self.assert_reads(("keep", ("keep", inner, gt("v", 4)), ("gt", num(0), num(1))), *[
                (3, chunk) for _, chunk in every])
        self.assert_reads(("with", ("keep", M, gt("v", 6)), (("g", X),)), (2, (4,)))

    def test_two_parts_get_no_condition(self):
        never = ("gt", num(0), num(1))
        other = ("keep", ("scan", "n"), ("eq", ("attr", "w"), num(7)))
        every = [(2, (index,)) for index in range(5)]
        for query in (("join", M, other), ("match", M, ("named", other, (("x", "z"),)), (("x", "z"),)),
                      ("across", M, ("named", other, (("x", "z"),))), ("either", M, ("keep", M, gt("v", 9)))):
            self.assert_reads(("keep", query, never), *every)

    def test_missing_conditions_do_not_count(self):
        self.assert_reads(("keep", M, ("value", "flag", None)))
        self.assert_reads(("keep", M, ("gt", V, ("value", "int", None))))
        self.assert_reads(("keep", M, ("value", "flag", True)), *[(1, (index,)) for index in range(5)])


class AnswersTest(Case):
    def setUp(self):
        self.source = MemorySource(FULL)

    def test_run(self):
        for query in (M, ("keep", P, gt("w", 3)), ("join", M, N), ("group", P, (), COUNT), ("ranked", Q, "r")):
            found = self.assert_unchanged(run, query, self.source)
            self.assert_same(found.shape, shape_of(query, self.source.shapes()))
            self.assert_same(sorted(found.cells.items()), sorted(tell(query, FULL).cells.items()))
        self.assert_error(InvalidQuery, 1, run, ("keep", ("scan", "o"), V), self.source)
        self.assert_error(InvalidQuery, 0, run, ("keep", M, V), self.source)

    def test_run_does_not_rewrite(self):
        query = ("keep", ("named", ("only", M, ("v",)), ()), gt("v", 7))
        other = ("keep", ("only", M, ("v",)), gt("v", 7))
        run(query, self.source)
        run(other, self.source)
        self.assertEqual(len(self.source.reads()), 20)

    def test_answer_chunks(self):
        shape = Shape((("x", 0, 9, 4), ("y", 0, 2, 2)), (("v", "int"),))
        array = Array(shape, {(9, 2): (1,), (9, 1): (2,), (0, 0): (3,), (3, 1): (4,)})
        source = MemorySource({"m": array})
        self.assert_same(answer_chunks(M, source), [((0, 0), {(0, 0): (3,), (3, 1): (4,)}), ((2, 0), {(9, 1): (2,)}),
                                                    ((2, 1), {(9, 2): (1,)})])
        self.assert_same(source.reads(), [("m", (0, 0)), ("m", (2, 0)), ("m", (2, 1))])
        self.assert_same(answer_chunks(("keep", M, gt("v", 4)), source), [])
        self.assert_same(answer_chunks(("box", M, (("x", 3, 9),)), source), [
            ((0, 0), {(3, 1): (4,)}), ((1, 0), {(9, 1): (2,)}), ((1, 1), {(9, 2): (1,)})])
        self.assert_error(InvalidQuery, 0, answer_chunks, ("keep", M, V), source)

    def test_deep_queries(self):
        query = M
        for _ in range(1500):
            query = ("box", query, (("x", 1, 30),))
        self.assertEqual(run(query, self.source).cells, tell(query, FULL).cells)
        self.assert_same(self.source.reads(), [("m", (index,)) for index in range(1, 10)])
        self.assertEqual(plan(query, self.source), ("box", M, (("x", 1, 30),)))

    def test_many_chunks(self):
        array = Array(Shape((("x", 1, 20000, 1),), (("v", "int"),)), {(7,): (1,), (19999,): (2,)})
        found = answer_chunks(("keep", M, gt("v", 1)), MemorySource({"m": array}))
        self.assert_same(found, [((19998,), {(19999,): (2,)})])

    def test_many_queries_and_regions(self):
        rolls = random.Random(6)
        for query in made.queries(700, 41, 3):
            arrays = made.some_arrays(rolls)
            source = MemorySource(arrays)
            whole = tell(query, arrays)
            self.assert_same(sorted(run(query, source).cells.items()), sorted(whole.cells.items()))
            self.assert_same(answer_chunks(query, source), sorted(split(whole).items()))
            for _ in range(3):
                self.assert_part(query, made.some_region(rolls, whole.shape), source, whole.cells)

    def assert_part(self, query, region, source, whole):
        source.forget_reads()
        told = self.assert_unchanged(reads_of, query, region, source)
        self.assertEqual(told, sorted(told))
        self.assertEqual(source.reads(), [])
        cells = self.assert_unchanged(part, query, region, source)
        self.assert_same(sorted(cells.items()), sorted([(place, whole[place]) for place in whole if all(
            [low <= at <= high for at, (low, high) in zip(place, region)])]))
        names = self.names_of(query)
        self.assertEqual(source.reads(), [(names[number], chunk) for number, chunk in told])
        cells.clear()
        told.clear()

    def names_of(self, query):
        found = []
        for inner in made.operators(query):
            found.append(inner[1] if inner[0] == "scan" else None)
        return found


class PlanTest(Case):
    def setUp(self):
        self.source = MemorySource(FULL)

    def test_the_rewritten_query_reads_less(self):
        query = ("keep", ("with", M, (("g", ("neg", V)),)), ("lt", ("attr", "g"), num(-7)))
        found = self.assert_unchanged(plan, query, self.source)
        self.assert_same(found, ("with", ("keep", M, ("lt", ("neg", V), num(-7))), (("g", ("neg", V)),)))
        self.assert_same(self.source.reads(), [])

    def test_the_rewritten_query_reads_as_much(self):
        query = ("only", ("only", M, ("v",)), ("v",))
        self.assert_same(plan(query, self.source), ("only", M, ("v",)))
        self.assert_same(plan(M, self.source), M)

    def test_the_rewritten_query_reads_more(self):
        # No rule makes a query read more: so another one stands in for the rewritten query.
        query, other = ("box", M, (("x", 1, 3),)), ("box", M, (("x", 1, 4),))
        with mock.patch("manysides.parts.rewritten", return_value=other):
            self.assert_same(plan(query, self.source), query)
            self.assert_same(plan(("box", M, (("x", 1, 5),)), self.source), other)
            self.assert_same(plan(("box", M, (("x", 2, 5),)), self.source), other)

    def test_reads_are_those_of_all_bounds(self):
        query = ("keep", ("named", M, ()), gt("v", 8))
        self.assert_same(plan(query, self.source), query)
        self.assert_error(InvalidQuery, 0, plan, ("keep", M, V), self.source)

    def test_many_queries(self):
        rolls = random.Random(7)
        for query in made.queries(300, 43, 3):
            source = MemorySource(made.some_arrays(rolls))
            other = rewritten(query, source.shapes())
            counts = [len(reads_of(told, whole_region(shape_of(told, source.shapes())), source)) for told in (query, other)]
            self.assert_same(plan(query, source), query if counts[0] < counts[1] else other)
