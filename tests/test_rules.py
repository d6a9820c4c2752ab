"""Points 12.1 and 12.2: each rule, where it applies and where it does not."""

from manysides.queries import shape_of
from manysides.rules import RULES, applied, names_in, put_in
from manysides.shapes import Shape
from tests.helpers import Case

M, N, Z = ("scan", "m"), ("scan", "n"), ("scan", "z")
SHAPES = {
    "m": Shape((("x", 0, 9, 5), ("y", -3, 4, 2)), (("v", "int"), ("f", "flag"))),
    "n": Shape((("x", 4, 20, 3), ("y", 0, 9, 9)), (("w", "int"),)),
    "z": Shape((("z", 0, 6, 4),), (("u", "int"),)),
}
V, F, W, U, X, Y = ("attr", "v"), ("attr", "f"), ("attr", "w"), ("attr", "u"), ("dim", "x"), ("dim", "y")
E, G = ("gt", V, X), ("not", F)
COUNT = (("n", "count", None),)
R, S = (("x", 1, 7), ("y", -2, 3)), (("x", 2, 8),)


def num(n):
    return ("value", "int", n)


class RuleCase(Case):
    def assert_leads(self, name, query, wanted):
        self.assert_same(self.assert_unchanged(applied, name, query, SHAPES), wanted)
        self.assert_same(shape_of(wanted, SHAPES), shape_of(query, SHAPES))

    def assert_none(self, name, *queries):
        for query in queries:
            shape_of(query, SHAPES)
            self.assertIsNone(applied(name, query, SHAPES), query)


class ApplyingTest(RuleCase):
    def test_names_in_the_order_of_the_table(self):
        self.assert_same(RULES, (
            "keep keep", "keep true", "box box", "box whole", "box keep", "box with", "box only", "box shift", "box join",
            "box across", "box turned", "box group", "box window", "keep with", "keep only", "keep join", "keep across",
            "keep group", "only only", "only with", "with with", "shift shift", "turned turned", "turned same"))

    def test_a_query_without_a_shape(self):
        for query in (("keep", ("keep", M, V), F), ("keep", ("keep", ("scan", "o"), F), F),
                      ("keep", ("keep", M, F), V)):
            self.assertIsNone(applied("keep keep", query, SHAPES))
        self.assertIsNone(applied("box whole", ("box", M, (("z", 0, 9),)), SHAPES))
        self.assertIsNone(applied("box box", ("box", ("box", M, (("x", 0, 3),)), (("x", 5, 9),)), SHAPES))
        self.assertIsNone(applied("turned same", ("turned", M, ("x",)), SHAPES))

    def test_only_the_operator_itself_is_looked_at(self):
        inner = ("keep", ("keep", M, F), G)
        for name in RULES:
            self.assert_none(name, ("ranked", inner, "r"))
            self.assert_none(name, ("named", ("box", ("keep", inner, F), ()), ()))
            self.assert_none(name, M)

    def test_other_words(self):
        one = ("window", M, (), COUNT)
        for name in RULES:
            for outer in (("group", one, (), COUNT), ("filled", one, (1,)), ("regrid", one, (), COUNT),
                          ("sorted", one, ((X, "up"),), "i", 3), ("reform", one, (("x", 0, 9, 5),), COUNT),
                          ("join", ("only", M, ("v",)), N), ("either", M, M), ("across", M, Z),
                          ("match", M, Z, (("x", "z"),)), ("only", one, ("n",)), ("with", one, (("n", X),)),
                          ("turned", one, ("y", "x")), ("shift", one, S and (("x", 1),))):
                self.assert_none(name, outer)

    def test_parts_to_which_no_rule_leads(self):
        for part in (("named", M, ()), ("filled", M, (1, True)), ("ranked", M, "r"), ("either", M, M), ("regrid", M, (), (
                ("v", "sum", V), ("f", "any", F))), ("match", M, Z, (("x", "z"),)), M):
            for name in RULES:
                self.assert_none(name, ("keep", part, E), ("box", part, S), ("only", part, ("v",)),
                                 ("with", part, (("v", X),)), ("shift", part, (("x", 1),)), ("turned", part, ("y", "x")))


class KeepTest(RuleCase):
    def test_keep_keep(self):
        self.assert_leads("keep keep", ("keep", ("keep", M, E), G), ("keep", M, ("and", E, G)))
        self.assert_none("keep keep", ("keep", ("box", M, S), E), ("box", ("keep", M, E), S))

    def test_keep_true(self):
        self.assert_leads("keep true", ("keep", M, ("value", "flag", True)), M)
        self.assert_leads("keep true", ("keep", ("keep", M, E), ("value", "flag", True)), ("keep", M, E))
        self.assert_none("keep true", ("keep", M, ("value", "flag", False)), ("keep", M, ("value", "flag", None)),
                         ("keep", M, ("not", ("value", "flag", False))), ("keep", M, F))

    def test_keep_with(self):
        definitions = (("v", ("add", V, X)), ("g", ("not", F)))
        self.assert_leads("keep with", ("keep", ("with", M, definitions), ("and", ("attr", "g"), ("gt", V, ("dim", "y")))),
                          ("with", ("keep", M, ("and", ("not", F), ("gt", ("add", V, X), Y))), definitions))
        self.assert_leads("keep with", ("keep", ("with", M, definitions), F), ("with", ("keep", M, F), definitions))
        swapped = (("v", ("neg", ("attr", "v"))), ("k", V))
        self.assert_leads("keep with", ("keep", ("with", M, swapped), ("lt", V, ("attr", "k"))),
                          ("with", ("keep", M, ("lt", ("neg", V), V)), swapped))

    def test_keep_only(self):
        self.assert_leads("keep only", ("keep", ("only", M, ("f", "v")), E), ("only", ("keep", M, E), ("f", "v")))

    def test_keep_join(self):
        both = ("join", M, N)
        self.assert_leads("keep join", ("keep", both, E), ("join", ("keep", M, E), N))
        self.assert_leads("keep join", ("keep", both, ("gt", W, X)), ("join", M, ("keep", N, ("gt", W, X))))
        self.assert_leads("keep join", ("keep", both, ("gt", Y, X)), ("join", ("keep", M, ("gt", Y, X)), N))
        self.assert_leads("keep join", ("keep", both, ("value", "flag", None)),
                          ("join", ("keep", M, ("value", "flag", None)), N))
        self.assert_none("keep join", ("keep", both, ("gt", W, V)), ("keep", both, ("and", F, ("gt", W, X))))

    def test_keep_across(self):
        both = ("across", M, Z)
        self.assert_leads("keep across", ("keep", both, E), ("across", ("keep", M, E), Z))
        self.assert_leads("keep across", ("keep", both, ("gt", U, ("dim", "z"))),
                          ("across", M, ("keep", Z, ("gt", U, ("dim", "z")))))
        self.assert_leads("keep across", ("keep", both, ("gt", ("dim", "z"), num(1))),
                          ("across", M, ("keep", Z, ("gt", ("dim", "z"), num(1)))))
        self.assert_leads("keep across", ("keep", both, ("gt", num(0), num(1))),
                          ("across", ("keep", M, ("gt", num(0), num(1))), Z))
        self.assert_none("keep across", ("keep", both, ("gt", U, X)), ("keep", both, ("gt", V, ("dim", "z"))),
                         ("keep", both, ("gt", U, V)))

    def test_keep_group(self):
        query = ("group", M, ("y",), COUNT)
        self.assert_leads("keep group", ("keep", query, ("gt", Y, num(0))),
                          ("group", ("keep", M, ("gt", Y, num(0))), ("y",), COUNT))
        self.assert_leads("keep group", ("keep", query, ("value", "flag", True)),
                          ("group", ("keep", M, ("value", "flag", True)), ("y",), COUNT))
        self.assert_none("keep group", ("keep", query, ("gt", ("attr", "n"), Y)),
                         ("keep", ("group", M, (), COUNT), ("value", "flag", True)),
                         ("keep", ("group", M, (), COUNT), ("gt", ("dim", "all"), num(0))),
                         ("keep", ("window", M, (), COUNT), ("gt", Y, num(0))))

    def test_other_parts_have_no_rule(self):
        for name in RULES:
            self.assert_none(name, ("keep", ("box", M, S), E), ("keep", ("shift", M, ()), E), ("keep", ("turned", M, (
                "y", "x")), E), ("keep", ("window", M, (), COUNT), ("gt", Y, X)))


class BoxTest(RuleCase):
    def test_box_box(self):
        self.assert_leads("box box", ("box", ("box", M, R), S), ("box", M, (("x", 2, 7), ("y", -2, 3))))
        self.assert_leads("box box", ("box", ("box", M, S), R), ("box", M, (("x", 2, 7), ("y", -2, 3))))
        self.assert_leads("box box", ("box", ("box", M, S), (("y", -9, 9), ("x", 0, 3))),
                          ("box", M, (("x", 2, 3), ("y", -9, 9))))
        self.assert_leads("box box", ("box", ("box", M, ()), R), ("box", M, R))
        self.assert_leads("box box", ("box", ("box", M, R), ()), ("box", M, R))
        self.assert_leads("box box", ("box", ("box", M, (("x", -20, 30),)), (("x", -10, 40),)), ("box", M, (("x", -10, 30),)))

    def test_box_whole(self):
        for ranges in ((), (("x", 0, 9),), (("y", -3, 4), ("x", -1, 10)), (("y", -99, 99),)):
            self.assert_leads("box whole", ("box", M, ranges), M)
        self.assert_none("box whole", ("box", M, (("x", 1, 9),)), ("box", M, (("x", 0, 8),)),
                         ("box", M, (("x", 0, 9), ("y", -2, 4))), ("box", M, (("y", -3, 3), ("x", 0, 9))))
        self.assert_leads("box whole", ("box", ("box", M, S), (("x", 2, 8),)), ("box", M, S))

    def test_inwards(self):
        self.assert_leads("box keep", ("box", ("keep", M, E), R), ("keep", ("box", M, R), E))
        self.assert_leads("box with", ("box", ("with", M, (("g", E),)), R), ("with", ("box", M, R), (("g", E),)))
        self.assert_leads("box only", ("box", ("only", M, ("f",)), R), ("only", ("box", M, R), ("f",)))
        self.assert_leads("box turned", ("box", ("turned", M, ("y", "x")), R), ("turned", ("box", M, R), ("y", "x")))
        self.assert_leads("box group", ("box", ("group", M, ("y",), COUNT), (("y", 0, 2),)),
                          ("group", ("box", M, (("y", 0, 2),)), ("y",), COUNT))
        self.assert_leads("box group", ("box", ("group", M, ("y",), COUNT), ()), ("group", ("box", M, ()), ("y",), COUNT))
        self.assert_none("box group", ("box", ("group", M, (), COUNT), (("all", 0, 0),)), ("box", ("group", M, (), COUNT), ()))

    def test_box_shift(self):
        self.assert_leads("box shift", ("box", ("shift", M, (("y", 5), ("x", -3))), (("x", -2, 4), ("y", 3, 6))),
                          ("shift", ("box", M, (("x", 1, 7), ("y", -2, 1))), (("y", 5), ("x", -3))))
        self.assert_leads("box shift", ("box", ("shift", M, (("y", 5),)), S), ("shift", ("box", M, S), (("y", 5),)))

    def test_box_join(self):
        self.assert_leads("box join", ("box", ("join", M, N), (("x", 3, 7),)),
                          ("join", ("box", M, (("x", 3, 7),)), ("box", N, (("x", 3, 7),))))

    def test_box_across(self):
        both = ("across", M, Z)
        ranges = (("y", 0, 1), ("z", 2, 3), ("x", 4, 5))
        self.assert_leads("box across", ("box", both, ranges),
                          ("across", ("box", M, (("y", 0, 1), ("x", 4, 5))), ("box", Z, (("z", 2, 3),))))
        self.assert_leads("box across", ("box", both, ranges[1:2]), ("across", M, ("box", Z, (("z", 2, 3),))))
        self.assert_leads("box across", ("box", both, ranges[:1]), ("across", ("box", M, (("y", 0, 1),)), Z))
        self.assert_leads("box across", ("box", both, ()), both)

    def test_box_window(self):
        def near(part):
            return ("window", part, (("y", 1, 2), ("x", 3, 0)), COUNT)

        def assert_boxed(ranges, inner):
            self.assert_leads("box window", ("box", near(M), ranges), ("box", near(("box", M, inner)), ranges))

        assert_boxed((("x", 4, 5),), (("x", 1, 5),))
        assert_boxed((("x", 0, 8),), (("x", -3, 8),))
        assert_boxed((("x", 4, 99),), (("x", 1, 9),))
        assert_boxed((("x", -99, 8),), (("x", -3, 8),))
        assert_boxed((("y", -1, 3),), (("y", -2, 5),))
        assert_boxed((("y", -9, 1),), (("y", -4, 3),))
        assert_boxed((("y", -3, 4), ("x", 4, 9)), (("y", -4, 6), ("x", 1, 9)))
        self.assert_none("box window", ("box", near(M), ()), ("box", near(M), (("x", 3, 9),)), ("box", near(M), (("y", -2, 2),)),
                         ("box", near(M), (("x", -99, 99), ("y", -99, 99))))
        inner = (("x", 1, 5),)
        self.assert_none("box window", ("box", near(("box", M, inner)), (("x", 4, 5),)))
        self.assert_leads("box window", ("box", ("window", M, (), COUNT), (("x", 0, 8),)),
                          ("box", ("window", ("box", M, (("x", 0, 8),)), (), COUNT), (("x", 0, 8),)))

    def test_other_parts_have_no_rule(self):
        for name in RULES:
            self.assert_none(name, ("box", ("named", M, ()), S), ("box", ("filled", M, (1, None)), S),
                             ("box", ("match", M, Z, (("x", "z"),)), S))


class OthersTest(RuleCase):
    def test_only_only(self):
        self.assert_leads("only only", ("only", ("only", M, ("f", "v")), ("v",)), ("only", M, ("v",)))

    def test_only_with(self):
        definitions = (("g", E), ("v", X), ("h", F))
        query = ("with", M, definitions)
        self.assert_leads("only with", ("only", query, ("h", "f", "g")),
                          ("only", ("with", M, (("g", E), ("h", F))), ("h", "f", "g")))
        self.assert_leads("only with", ("only", query, ("f",)), ("only", M, ("f",)))
        self.assert_leads("only with", ("only", query, ("v", "f")), ("only", ("with", M, (("v", X),)), ("v", "f")))
        self.assert_none("only with", ("only", query, ("h", "v", "g")), ("only", query, ("f", "h", "v", "g")))

    def test_with_with(self):
        inner = (("g", ("add", V, num(1))), ("v", X))
        outer = (("h", ("mul", ("attr", "g"), V)), ("g", ("sub", ("attr", "g"), Y)), ("f", F))
        self.assert_leads("with with", ("with", ("with", M, inner), outer), ("with", M, (
            ("g", ("sub", ("add", V, num(1)), Y)), ("v", X), ("h", ("mul", ("add", V, num(1)), X)), ("f", F))))
        self.assert_leads("with with", ("with", ("with", M, (("v", ("neg", V)),)), (("v", ("neg", V)),)),
                          ("with", M, (("v", ("neg", ("neg", V))),)))

    def test_shift_shift(self):
        self.assert_leads("shift shift", ("shift", ("shift", M, (("x", 2),)), (("y", 1), ("x", -2))),
                          ("shift", M, (("x", 0), ("y", 1))))
        self.assert_leads("shift shift", ("shift", ("shift", M, (("y", 2), ("x", 3))), (("x", 4),)),
                          ("shift", M, (("y", 2), ("x", 7))))
        self.assert_leads("shift shift", ("shift", ("shift", M, ()), ()), ("shift", M, ()))

    def test_turned(self):
        self.assert_leads("turned turned", ("turned", ("turned", M, ("y", "x")), ("x", "y")), ("turned", M, ("x", "y")))
        self.assert_leads("turned turned", ("turned", ("turned", M, ("y", "x")), ("y", "x")), ("turned", M, ("y", "x")))
        self.assert_leads("turned same", ("turned", M, ("x", "y")), M)
        self.assert_leads("turned same", ("turned", ("turned", M, ("y", "x")), ("y", "x")), ("turned", M, ("y", "x")))
        self.assert_none("turned same", ("turned", M, ("y", "x")))


class SharedNamesTest(RuleCase):
    def test_dims_with_the_same_names_in_both_parts(self):
        both = ("join", M, ("join", N, ("with", ("only", ("named", M, (("v", "k"),)), ("k",)), (("k", X),))))
        self.assert_leads("keep join", ("keep", both, ("gt", ("attr", "k"), X)),
                          ("join", M, ("keep", both[2], ("gt", ("attr", "k"), X))))
        self.assert_leads("box join", ("box", both, R), ("join", ("box", M, R), ("box", both[2], R)))

    def test_a_dim_that_has_the_name_of_an_attribute_inside(self):
        turned = ("named", M, (("x", "v"), ("v", "x")))
        self.assert_leads("keep across", ("keep", ("across", turned, Z), ("gt", ("dim", "v"), ("attr", "x"))),
                          ("across", ("keep", turned, ("gt", ("dim", "v"), ("attr", "x"))), Z))
        definitions = (("g", ("dim", "v")),)
        self.assert_leads("keep with", ("keep", ("with", turned, definitions), ("gt", ("attr", "g"), ("dim", "v"))),
                          ("with", ("keep", turned, ("gt", ("dim", "v"), ("dim", "v"))), definitions))
        self.assert_leads("keep group", ("keep", ("group", M, ("y",), (("x", "count", None),)), ("gt", Y, Y)),
                          ("group", ("keep", M, ("gt", Y, Y)), ("y",), (("x", "count", None),)))


class ExpressionsTest(Case):
    def test_put_in(self):
        e = ("if", F, ("add", V, ("dim", "v")), ("or else", ("value", "int", None), ("attr", "g")))
        definitions = {"v": ("neg", V), "g": X, "x": num(3), "u": num(4)}
        self.assert_same(self.assert_unchanged(put_in, e, definitions),
                         ("if", F, ("add", ("neg", V), ("dim", "v")), ("or else", ("value", "int", None), X)))
        self.assert_same(put_in(V, {"v": ("add", V, W), "w": V}), ("add", V, W))
        self.assert_same(put_in(e, {}), e)
        self.assert_same(put_in(("value", "text", "v"), {"v": num(1)}), ("value", "text", "v"))

    def test_names_in(self):
        e = ("if", F, ("add", V, ("dim", "a")), ("or else", ("value", "text", "q"), ("add", V, X)))
        self.assert_same(self.assert_unchanged(names_in, e), ["a", "f", "v", "x"])
        self.assert_same(names_in(num(1)), [])
        self.assert_same(names_in(("eq", ("attr", "b"), ("dim", "b"))), ["b"])
        self.assert_same(names_in(("eq", ("attr", "b"), ("dim", "B"))), ["B", "b"])
