"""Points 12.3 and 12.4: rewriting."""

import random

from manysides.queries import operators, parts_of, shape_of, with_parts
from manysides.rules import RULES, applied, rewritten
from manysides.shapes import Shape
from manysides.teller import tell
from tests import made
from tests.helpers import Case

M = ("scan", "m")
SHAPES = {"m": Shape((("x", 0, 9, 5), ("y", -3, 4, 2)), (("v", "int"), ("f", "flag"))),
          "n": Shape((("x", 4, 20, 3), ("y", 0, 9, 9)), (("w", "int"),))}
V, F, X = ("attr", "v"), ("attr", "f"), ("dim", "x")
COUNT = (("n", "count", None),)


def places_of_operators(query, path=()):
    """Returns the list of the paths to the operators of a query, in the order of writing."""
    found = [path]
    for index, part in enumerate(parts_of(query)):
        found += places_of_operators(part, path + (index,))
    return found


def at(query, path):
    return at(parts_of(query)[path[0]], path[1:]) if path else query


def put_at(query, path, other):
    if not path:
        return other
    parts = list(parts_of(query))
    parts[path[0]] = put_at(parts[path[0]], path[1:], other)
    return with_parts(query, tuple(parts))


def one_step(query, shapes):
    """Returns the query behind the first step, and the rule; the query is looked through from the beginning."""
    for path in places_of_operators(query):
        for name in RULES:
            other = applied(name, at(query, path), shapes)
            if other is not None:
                return put_at(query, path, other), name
    return None, None


class RewritingTest(Case):
    def assert_rewritten(self, query, wanted):
        self.assert_same(self.assert_unchanged(rewritten, query, SHAPES), wanted)

    def test_example(self):
        shapes = {"m": Shape((("x", 0, 9, 5),), (("v", "int"),))}
        big = ("gt", ("attr", "w"), ("value", "int", 3))
        self.assert_same(rewritten(("keep", ("with", M, (("w", ("neg", V)),)), big), shapes), (
            "with", ("keep", M, ("gt", ("neg", V), ("value", "int", 3))), (("w", ("neg", V)),)))

    def test_nothing_to_do(self):
        for query in (M, ("keep", M, F), ("ranked", ("named", M, ()), "r"), ("box", M, (("x", 1, 3),))):
            self.assert_rewritten(query, query)

    def test_the_first_operator_comes_first(self):
        inner = ("keep", ("keep", M, F), ("gt", V, X))
        self.assert_rewritten(("keep", inner, ("lt", V, X)), ("keep", M, ("and", F, ("and", ("gt", V, X), ("lt", V, X)))))
        self.assert_rewritten(("only", ("with", inner, (("g", X),)), ("v",)),
                              ("only", ("keep", M, ("and", F, ("gt", V, X))), ("v",)))

    def test_the_first_rule_comes_first(self):
        true = ("value", "flag", True)
        self.assert_rewritten(("keep", ("keep", M, F), true), ("keep", M, ("and", F, true)))
        self.assert_rewritten(("keep", ("with", M, (("g", X),)), true), ("with", M, (("g", X),)))
        self.assert_rewritten(("box", ("box", M, (("x", 1, 5),)), (("x", 0, 9),)), ("box", M, (("x", 1, 5),)))

    def test_an_operator_outside_may_apply_again(self):
        query = ("box", ("named", ("keep", ("keep", M, ("value", "flag", True)), F), ()), (("x", 0, 9),))
        self.assert_rewritten(query, ("named", ("keep", M, ("and", ("value", "flag", True), F)), ()))
        query = ("only", ("turned", ("with", M, (("g", X),)), ("x", "y")), ("v",))
        self.assert_rewritten(query, ("only", M, ("v",)))
        query = ("box", ("turned", ("turned", ("box", M, (("x", 0, 4),)), ("y", "x")), ("x", "y")), (("y", 0, 1),))
        self.assert_rewritten(query, ("box", M, (("x", 0, 4), ("y", 0, 1))))

    def test_boxes_go_to_the_scans(self):
        query = ("box", ("group", ("join", ("shift", M, (("x", 3),)), ("scan", "n")), ("x",), COUNT), (("x", 5, 6),))
        self.assert_rewritten(query, ("group", ("join", ("shift", ("box", M, (("x", 2, 3),)), (("x", 3),)),
                                                ("box", ("scan", "n"), (("x", 5, 6),))), ("x",), COUNT))
        query = ("box", ("window", ("keep", M, F), (("x", 1, 1),), COUNT), (("x", 4, 5),))
        self.assert_rewritten(query, ("box", ("window", ("keep", ("box", M, (("x", 3, 6),)), F), (("x", 1, 1),), COUNT),
                                      (("x", 4, 5),)))

    def test_step_by_step_with_the_same_answers(self):
        rolls = random.Random(8)
        used = set()
        for query in made.queries(350, 21, 4) + made.queries(250, 22, 3):
            shape = shape_of(query, made.SHAPES)
            arrays = made.some_arrays(rolls)
            answer = tell(query, arrays)
            current, following = query, query
            while following is not None:
                current = following
                following, name = one_step(current, made.SHAPES)
                used.add(name)
            found = self.assert_unchanged(rewritten, query, made.SHAPES)
            self.assert_same(found, current)
            self.assert_same(shape_of(found, made.SHAPES), shape)
            other = tell(found, arrays)
            self.assert_same(sorted(other.cells.items()), sorted(answer.cells.items()))
        self.assertGreater(len(used), 20)

    def test_each_rule_keeps_answers(self):
        rolls = random.Random(9)
        used = set()
        for query in made.queries(1500, 31, 3):
            for part in operators(query):
                for name in RULES:
                    other = applied(name, part, made.SHAPES)
                    if other is not None:
                        used.add(name)
                        arrays = made.some_arrays(rolls)
                        self.assert_same(shape_of(other, made.SHAPES), shape_of(part, made.SHAPES))
                        self.assert_same(sorted(tell(other, arrays).cells.items()),
                                         sorted(tell(part, arrays).cells.items()))
        self.assertEqual(used, set(RULES))

    def test_long_queries(self):
        query = M
        for index in range(400):
            query = ("shift", ("box", query, (("x", 0, 9 + index),)), (("x", 1),))
        found = rewritten(query, SHAPES)
        self.assertEqual([part[0] for part in operators(found)], ["shift", "scan"])
        self.assert_same(found, ("shift", M, (("x", 400),)))
