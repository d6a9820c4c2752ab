"""Points 10.1 to 10.6: operators of queries, and shapes."""

from manysides.errors import InvalidQuery
from manysides.queries import operators, parts_of, shape_of, with_parts
from manysides.shapes import Shape
from tests.helpers import Case

M, N = ("scan", "m"), ("scan", "n")
SHAPES = {
    "m": Shape((("x", 0, 9, 5), ("y", -3, 4, 2)), (("v", "int"), ("f", "flag"), ("t", "text"))),
    "n": Shape((("x", 4, 20, 3), ("y", 0, 9, 9)), (("w", "int"),)),
    "line": Shape((("z", 0, 6, 4),), (("u", "int"),)),
    "far": Shape((("x", -1000000, 1000000, 1000000),), (("v", "int"),)),
    "six": Shape(tuple([(f"d{index}", 0, 1, 1) for index in range(6)]), (("s", "int"),)),
    "wide": Shape((("x", 0, 9, 5),), tuple([(f"a{index}", "int") for index in range(15)])),
    "full": Shape((("z", 0, 9, 5),), tuple([(f"b{index}", "int") for index in range(16)])),
    "big": Shape((("x", 0, 99999, 5),), (("v", "int"),)),
    "bigger": Shape((("x", 0, 100000, 5),), (("v", "int"),)),
}
V, F, T, X, Y = ("attr", "v"), ("attr", "f"), ("attr", "t"), ("dim", "x"), ("dim", "y")
COUNT = (("n", "count", None),)
DIMS, ATTRS = SHAPES["m"].dims, SHAPES["m"].attrs
BIG = 1000000


class ShapeCase(Case):
    def assert_shape(self, query, dims, attrs):
        self.assert_same(self.assert_unchanged(shape_of, query, SHAPES), Shape(dims, attrs))

    def assert_none(self, query, place=0):
        self.assert_error(InvalidQuery, place, shape_of, query, SHAPES)

    def assert_right(self, query):
        self.assertIsInstance(shape_of(query, SHAPES), Shape)


class OperatorsTest(Case):
    def test_example(self):
        rain = Shape((("x", 0, 9, 5), ("y", 0, 3, 2)), (("mm", "int"),))
        q = ("group", ("box", ("scan", "rain"), (("x", 4, 20),)), ("x",), (("most", "greatest", ("attr", "mm")),))
        self.assert_same((shape_of(q, {"rain": rain}).dims, [part[0] for part in operators(q)]),
                         ((("x", 4, 9, 5),), ["group", "box", "scan"]))

    def test_parts_of_each_operator(self):
        self.assert_same(parts_of(M), ())
        for word, *facts in (("box", ()), ("shift", ()), ("keep", F), ("with", (("v", V),)), ("only", ("v",)),
                             ("named", ()), ("group", (), COUNT), ("window", (), COUNT), ("regrid", (), COUNT),
                             ("reform", (("x", 0, 9, 5),), COUNT), ("turned", ("y", "x")),
                             ("filled", (1, True, "a")), ("ranked", "r"), ("sorted", ((V, "up"),), "z", 3)):
            query = (word, M, *facts)
            self.assert_same(self.assert_unchanged(parts_of, query), (M,))
            self.assert_same(self.assert_unchanged(with_parts, query, (N,)), (word, N, *facts))
            self.assert_same(with_parts(query, parts_of(query)), query)
        for word, *facts in (("join",), ("either",), ("across",), ("match", (("x", "x"),))):
            query = (word, M, N, *facts)
            self.assert_same(self.assert_unchanged(parts_of, query), (M, N))
            self.assert_same(with_parts(query, (N, query)), (word, N, query, *facts))
        self.assert_same(with_parts(M, ()), M)

    def test_operators_in_the_order_of_writing(self):
        left = ("keep", ("join", M, ("only", N, ("w",))), F)
        right = ("box", ("scan", "line"), ())
        query = ("across", left, right)
        self.assert_same(self.assert_unchanged(operators, query),
                         [query, left, left[1], M, ("only", N, ("w",)), N, right, ("scan", "line")])
        self.assert_same(operators(M), [M])
        found = operators(query)
        found.append(1)
        self.assertEqual(len(operators(query)), 8)


class OneOperatorTest(ShapeCase):
    def test_scan(self):
        self.assert_shape(M, DIMS, ATTRS)
        self.assert_none(("scan", "o"))
        self.assert_error(InvalidQuery, 0, shape_of, M, {})

    def test_box(self):
        self.assert_shape(("box", M, (("y", -9, 2),)), (("x", 0, 9, 5), ("y", -3, 2, 2)), ATTRS)
        self.assert_shape(("box", M, (("y", 4, 9), ("x", 3, 5))), (("x", 3, 5, 5), ("y", 4, 4, 2)), ATTRS)
        self.assert_shape(("box", M, ()), DIMS, ATTRS)
        self.assert_shape(("box", M, (("x", -9999999, 9999999),)), DIMS, ATTRS)
        for ranges in ((("z", 0, 9),), (("v", 0, 9),), (("x", 0, 9), ("x", 0, 9)), (("x", 10, 12),), (("x", -5, -1),),
                       (("y", 5, 5),), (("x", 5, 4),), (("y", 0, 1), ("x", 9, 8))):
            self.assert_none(("box", M, ranges))

    def test_shift(self):
        self.assert_shape(("shift", M, (("y", -7), ("x", 10))), (("x", 10, 19, 5), ("y", -10, -3, 2)), ATTRS)
        self.assert_shape(("shift", M, ()), DIMS, ATTRS)
        self.assert_shape(("shift", M, (("x", BIG - 9),)), (("x", BIG - 9, BIG, 5), DIMS[1]), ATTRS)
        self.assert_shape(("shift", M, (("x", -BIG),)), (("x", -BIG, 9 - BIG, 5), DIMS[1]), ATTRS)
        for shifts in ((("z", 1),), (("f", 1),), (("x", 1), ("x", 2)), (("x", BIG - 8),), (("x", -BIG - 1),)):
            self.assert_none(("shift", M, shifts))

    def test_keep(self):
        self.assert_shape(("keep", M, ("and", F, ("gt", V, X))), DIMS, ATTRS)
        for expression in (V, ("attr", "g"), ("dim", "z"), ("not", V), ("value", "flag", 1), ("value", "text", "")):
            self.assert_none(("keep", M, expression))

    def test_with(self):
        self.assert_shape(("with", M, (("f", V), ("g", F), ("h", T))), DIMS,
                          (("v", "int"), ("f", "int"), ("t", "text"), ("g", "flag"), ("h", "text")))
        self.assert_shape(("with", M, (("v", T),)), DIMS, (("v", "text"),) + ATTRS[1:])
        for definitions in ((), (("g", V), ("g", V)), (("v", V), ("v", V)), (("x", V),), (("g", ("attr", "h")),),
                            (("g", V), ("h", ("attr", "g"))), (("g", ("add", V, F)),)):
            self.assert_none(("with", M, definitions))

    def test_only(self):
        self.assert_shape(("only", M, ("t", "v")), DIMS, (ATTRS[2], ATTRS[0]))
        self.assert_shape(("only", M, ("f",)), DIMS, (ATTRS[1],))
        for names in ((), ("g",), ("x",), ("v", "v"), ("v", "f", "g")):
            self.assert_none(("only", M, names))

    def test_named(self):
        self.assert_shape(("named", M, (("x", "y"), ("y", "x"))), (("y", 0, 9, 5), ("x", -3, 4, 2)), ATTRS)
        self.assert_shape(("named", M, (("v", "x"), ("x", "v"), ("f", "g"))), (("v", 0, 9, 5), DIMS[1]),
                          (("x", "int"), ("g", "flag"), ("t", "text")))
        self.assert_shape(("named", M, ()), DIMS, ATTRS)
        self.assert_shape(("named", M, (("v", "v"),)), DIMS, ATTRS)
        for pairs in ((("z", "a"),), (("x", "a"), ("x", "b")), (("v", "f"),), (("v", "x"),), (("x", "y"),),
                      (("v", "a"), ("f", "a")), (("x", "a"), ("a", "b"))):
            self.assert_none(("named", M, pairs))

    def test_join(self):
        self.assert_shape(("join", M, N), (("x", 4, 9, 5), ("y", 0, 4, 2)), ATTRS + (("w", "int"),))
        self.assert_shape(("join", N, M), (("x", 4, 9, 3), ("y", 0, 4, 9)), (("w", "int"),) + ATTRS)
        self.assert_shape(("join", M, ("shift", N, (("x", 5),))), (("x", 9, 9, 5), ("y", 0, 4, 2)), ATTRS + (("w", "int"),))
        for other in (M, ("turned", N, ("y", "x")), ("scan", "line"), ("named", N, (("x", "z"),)),
                      ("shift", N, (("x", 6),)), ("shift", N, (("y", -13),)), ("named", N, (("w", "v"),))):
            self.assert_none(("join", M, other))
        sixteen = ("named", ("scan", "full"), (("z", "x"),))
        self.assert_none(("join", ("scan", "wide"), sixteen))
        self.assert_right(("join", ("scan", "wide"), ("scan", "far")))
        self.assert_none(("join", ("scan", "wide"), ("with", ("scan", "far"), (("w", V),))))

    def test_either(self):
        other = ("named", ("only", ("shift", M, (("x", 20), ("y", -2))), ("v",)), ())
        mine = ("only", M, ("v",))
        self.assert_shape(("either", mine, other), (("x", 0, 29, 5), ("y", -5, 4, 2)), ATTRS[:1])
        self.assert_shape(("either", ("named", N, (("w", "v"),)), mine), (("x", 0, 20, 3), ("y", -3, 9, 9)), ATTRS[:1])
        for wrong in (N, ("only", M, ("v", "f")), ("only", M, ("f",)), ("turned", mine, ("y", "x")), ("scan", "far"),
                      ("with", mine, (("v", ("value", "text", "")),)), ("named", mine, (("y", "z"),))):
            self.assert_none(("either", mine, wrong))
        self.assert_none(("either", M, ("only", M, ("f", "v", "t"))))

    def test_across(self):
        self.assert_shape(("across", M, ("scan", "line")), DIMS + (("z", 0, 6, 4),), ATTRS + (("u", "int"),))
        self.assert_shape(("across", ("scan", "line"), M), (("z", 0, 6, 4),) + DIMS, (("u", "int"),) + ATTRS)
        for other in (M, N, ("named", ("scan", "line"), (("u", "v"),)), ("named", ("scan", "line"), (("z", "v"),)),
                      ("named", ("scan", "line"), (("u", "x"),))):
            self.assert_none(("across", M, other))
        five = ("group", ("scan", "six"), ("d0", "d1", "d2", "d3", "d4"), (("s", "count", None),))
        self.assert_right(("across", five, ("scan", "line")))
        self.assert_none(("across", ("scan", "six"), ("scan", "line")))
        self.assert_none(("across", ("scan", "wide"), ("with", ("scan", "line"), (("w", ("dim", "z")),))))
        self.assert_right(("across", ("scan", "wide"), ("scan", "line")))
        self.assert_none(("across", ("scan", "far"), ("scan", "full")))

    def test_match(self):
        self.assert_shape(("match", M, ("scan", "line"), (("x", "z"),)), (("x", 0, 6, 5), DIMS[1]), ATTRS + (("u", "int"),))
        self.assert_shape(("match", ("scan", "line"), N, (("z", "y"),)), (("z", 0, 6, 4), ("x", 4, 20, 3)),
                          (("u", "int"), ("w", "int")))
        self.assert_shape(("match", M, N, (("y", "x"), ("x", "y"))), (("x", 0, 9, 5), ("y", 4, 4, 2)),
                          ATTRS + (("w", "int"),))
        self.assert_shape(("match", M, N, (("x", "x"), ("y", "y"))), (("x", 4, 9, 5), ("y", 0, 4, 2)),
                          ATTRS + (("w", "int"),))
        line = ("scan", "line")
        for first, second, pairs in ((M, line, ()), (M, line, (("z", "z"),)), (M, line, (("x", "x"),)),
                                     (M, line, (("x", "z"), ("y", "z"))), (M, N, (("x", "x"), ("x", "y"))),
                                     (M, N, (("x", "x"),)), (M, line, (("v", "z"),)), (M, line, (("x", "u"),)),
                                     (M, ("shift", line, (("z", 10),)), (("x", "z"),)),
                                     (M, ("shift", line, (("z", -7),)), (("x", "z"),)),
                                     (M, ("named", line, (("u", "v"),)), (("x", "z"),))):
            self.assert_none(("match", first, second, pairs))
        self.assert_right(("match", ("scan", "six"), line, (("d3", "z"),)))
        self.assert_none(("match", ("scan", "six"), ("named", N, (("w", "q"),)), (("d3", "x"),)))
        self.assert_none(("match", ("scan", "far"), ("scan", "full"), (("x", "z"),)))

    def test_group(self):
        self.assert_shape(("group", M, ("y", "x"), COUNT), (DIMS[1], DIMS[0]), (("n", "int"),))
        self.assert_shape(("group", M, ("y",), COUNT), (DIMS[1],), (("n", "int"),))
        self.assert_shape(("group", M, (), COUNT), (("all", 0, 0, 1),), (("n", "int"),))
        self.assert_shape(("group", M, ("y",), (("x", "count", None), ("v", "count", None))), (DIMS[1],),
                          (("x", "int"), ("v", "int")))
        for names in (("z",), ("v",), ("x", "x"), ("all",)):
            self.assert_none(("group", M, names, COUNT))
        self.assert_none(("group", M, ("x",), (("x", "count", None),)))
        self.assert_none(("group", M, (), (("all", "count", None),)))
        self.assert_right(("group", M, ("x",), (("all", "count", None),)))

    def test_window(self):
        self.assert_shape(("window", M, (("y", 0, BIG), ("x", BIG, 0)), COUNT), DIMS, (("n", "int"),))
        self.assert_shape(("window", M, (), COUNT), DIMS, (("n", "int"),))
        for spans in ((("z", 0, 0),), (("v", 0, 0),), (("x", 0, 1), ("x", 0, 1)), (("x", -1, 0),), (("x", 0, -1),),
                      (("x", BIG + 1, 0),), (("x", 0, BIG + 1),), (("y", 1, 1), ("x", 2, -1))):
            self.assert_none(("window", M, spans, COUNT))
        self.assert_none(("window", M, (), (("y", "count", None),)))

    def test_regrid(self):
        self.assert_shape(("regrid", M, (("y", 3), ("x", 10)), COUNT), (("x", 0, 0, 5), ("y", 0, 2, 2)), (("n", "int"),))
        self.assert_shape(("regrid", M, (("y", 1),), COUNT), (("x", 0, 9, 5), ("y", 0, 7, 2)), (("n", "int"),))
        self.assert_shape(("regrid", M, (), COUNT), DIMS, (("n", "int"),))
        self.assert_shape(("regrid", ("scan", "far"), (("x", BIG),), COUNT), (("x", 0, 2, BIG),), (("n", "int"),))
        self.assert_shape(("regrid", ("scan", "far"), (("x", 2),), COUNT), (("x", 0, BIG, BIG),), (("n", "int"),))
        for factors in ((("z", 1),), (("v", 1),), (("x", 1), ("x", 1)), (("x", 0),), (("x", -1),), (("x", BIG + 1),)):
            self.assert_none(("regrid", M, factors, COUNT))
        self.assert_none(("regrid", ("scan", "far"), (("x", 1),), COUNT))

    def test_reform(self):
        dims = (("y", -BIG, BIG, BIG), ("v", 3, 3, 1))
        self.assert_shape(("reform", M, dims, COUNT), dims, (("n", "int"),))
        self.assert_shape(("reform", M, (("v", 0, 1, 1),), (("x", "count", None),)), (("v", 0, 1, 1),), (("x", "int"),))
        for wrong in ((), (("z", 0, 1, 1),), (("f", 0, 1, 1),), (("t", 0, 1, 1),), (("v", 0, 1, 1), ("v", 0, 1, 1)),
                      (("v", 1, 0, 1),), (("v", 0, 1, 0),), (("v", 0, 1, BIG + 1),), (("v", -BIG - 1, 0, 1),),
                      (("x", 0, BIG + 1, 1),), (("v", 0, 1, 1), ("x", 2, 1, 1))):
            self.assert_none(("reform", M, wrong, COUNT))
        self.assert_none(("reform", M, (("v", 0, 1, 1),), (("v", "count", None),)))
        six = tuple([(f"d{index}", 0, 1, 1) for index in range(6)])
        self.assert_right(("reform", ("scan", "six"), six, COUNT))
        self.assert_none(("reform", ("scan", "six"), six + (("s", 0, 1, 1),), COUNT))

    def test_turned(self):
        self.assert_shape(("turned", M, ("y", "x")), (DIMS[1], DIMS[0]), ATTRS)
        self.assert_shape(("turned", M, ("x", "y")), DIMS, ATTRS)
        for names in (("x", "y"), ("y", "x")):
            self.assert_shape(("turned", ("turned", M, ("y", "x")), names), [DIMS, DIMS[::-1]][names[0] == "y"], ATTRS)
        for names in ((), ("x",), ("x", "x"), ("x", "y", "x"), ("x", "z"), ("x", "y", "v")):
            self.assert_none(("turned", M, names))

    def test_filled(self):
        for values in ((1, True, "a"), (None, None, None), (-5, False, "")):
            self.assert_shape(("filled", M, values), DIMS, ATTRS)
        for values in ((), (1, True), (1, True, "a", 1), (True, True, "a"), (1, 1, "a"), (1, True, 1), ("a", True, "a"),
                       (10 ** 30, True, "a"), (1, True, "a" * 201), (1, True, "\t")):
            self.assert_none(("filled", M, values))
        self.assert_right(("filled", ("scan", "big"), (0,)))
        self.assert_none(("filled", ("scan", "bigger"), (0,)))

    def test_ranked(self):
        self.assert_shape(("ranked", M, "r"), DIMS, ATTRS + (("r", "int"),))
        for name in ("x", "y", "v", "t"):
            self.assert_none(("ranked", M, name))
        self.assert_right(("ranked", ("scan", "wide"), "r"))
        self.assert_none(("ranked", ("scan", "full"), "r"))

    def test_sorted(self):
        self.assert_shape(("sorted", M, ((T, "up"), (F, "down"), (X, "up")), "z", 3), (("z", 0, 2, 3),),
                          (("x", "int"), ("y", "int")) + ATTRS)
        self.assert_shape(("sorted", M, ((T, "up"),), "z", 1), (("z", 0, 0, 1),), (("x", "int"), ("y", "int")) + ATTRS)
        self.assert_right(("sorted", M, ((T, "up"),), "z", 100000))
        for keys, name, limit in (((), "z", 3), (((("attr", "g"), "up"),), "z", 3), (((T, "up"), (("neg", T), "up")), "z", 3),
                                  (((T, "up"),), "x", 3), (((T, "up"),), "v", 3), (((T, "up"),), "z", 0),
                                  (((T, "up"),), "z", -1), (((T, "up"),), "z", 100001)):
            self.assert_none(("sorted", M, keys, name, limit))
        self.assert_right(("sorted", ("scan", "wide"), ((X, "up"),), "z", 3))
        self.assert_none(("sorted", ("scan", "full"), ((("dim", "z"), "up"),), "q", 3))


class AggregatesTest(ShapeCase):
    def over(self, aggregates):
        return (("group", M, ("x",), aggregates), ("window", M, (), aggregates), ("regrid", M, (), aggregates),
                ("reform", M, (("x", 0, 9, 1),), aggregates))

    def test_kinds(self):
        aggregates = (("a", "count", None), ("b", "count", T), ("c", "known", F), ("d", "sum", X), ("e", "least", T),
                      ("g", "greatest", F), ("h", "first", V), ("i", "all", F), ("j", "any", ("gt", V, X)))
        for query in self.over(aggregates):
            self.assert_same(shape_of(query, SHAPES).attrs, (
                ("a", "int"), ("b", "int"), ("c", "int"), ("d", "int"), ("e", "text"), ("g", "flag"), ("h", "int"),
                ("i", "flag"), ("j", "flag")))

    def test_each_condition(self):
        wrong = [(), (("a", "count", None), ("a", "count", None)), (("x", "count", None),)]
        wrong += [(("a", word, None),) for word in ("known", "sum", "least", "greatest", "first", "all", "any")]
        wrong += [(("a", word, ("attr", "g")),) for word in ("count", "known", "sum", "least", "greatest", "first",
                                                             "all", "any")]
        wrong += [(("a", "sum", F),), (("a", "sum", T),), (("a", "all", V),), (("a", "any", V),), (("a", "all", T),),
                  (("a", "any", T),), (("a", "count", ("not", V)),), (("a", "count", None), ("b", "sum", F))]
        for aggregates in wrong:
            for query in self.over(aggregates):
                self.assert_none(query)

    def test_number_of_aggregates(self):
        for query in self.over(tuple([(f"a{index}", "count", None) for index in range(16)])):
            self.assertEqual(len(shape_of(query, SHAPES).attrs), 16)
        for query in self.over(tuple([(f"a{index}", "count", None) for index in range(17)])):
            self.assert_none(query)


class NumberTest(ShapeCase):
    def test_number_of_the_operator(self):
        bad = ("only", M, ())
        self.assert_none(("keep", bad, F), 1)
        self.assert_none(("keep", ("box", M, ()), V), 0)
        self.assert_none(("box", ("keep", ("scan", "o"), F), ()), 2)
        self.assert_none(("across", M, ("scan", "o")), 2)
        self.assert_none(("across", ("box", ("box", M, ()), ()), ("keep", ("scan", "line"), V)), 4)
        self.assert_none(("join", ("box", M, ()), M), 0)

    def test_parts_come_before_their_operator_and_from_left_to_right(self):
        bad, worse = ("only", ("scan", "o"), ()), ("scan", "p")
        self.assert_none(("keep", bad, V), 2)
        self.assert_none(("across", bad, worse), 2)
        self.assert_none(("across", worse, bad), 1)
        self.assert_none(("across", ("keep", M, V), worse), 1)
        self.assert_none(("across", ("keep", M, F), worse), 3)
        self.assert_none(("keep", ("across", ("only", M, ()), ("only", N, ())), V), 2)
        self.assert_none(("across", M, ("keep", ("only", N, ()), V)), 3)
        self.assert_none(("match", ("either", M, N), ("either", N, M), ()), 1)
        self.assert_none(("match", ("either", M, M), ("either", N, M), ()), 4)
        self.assert_none(("match", ("either", M, M), ("either", N, N), ()), 0)

    def test_expressions_are_over_the_part(self):
        inner = ("with", M, (("g", V),))
        self.assert_right(("keep", inner, ("gt", ("attr", "g"), X)))
        self.assert_none(("keep", ("only", inner, ("g",)), ("gt", V, X)), 0)
        self.assert_none(("group", M, ("x",), (("a", "count", None), ("b", "sum", ("attr", "a")))), 0)
        self.assert_right(("keep", ("group", M, ("x",), COUNT), ("gt", ("attr", "n"), X)))

    def test_deep_queries(self):
        query = M
        for _ in range(3000):
            query = ("box", query, ())
        self.assert_right(query)
        self.assertEqual(len(operators(query)), 3001)
        self.assert_error(InvalidQuery, 3000, shape_of, query, {})

    def test_shapes_are_new_or_not_changed(self):
        before = {name: SHAPES[name] for name in SHAPES}
        self.assert_unchanged(shape_of, ("join", M, N), before)
