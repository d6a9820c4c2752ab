"""Points 05.1 to 05.4."""

from manysides.errors import InvalidQuery
from manysides.expressions import kind_of, parts_of, value_of
from manysides.shapes import Shape
from tests.helpers import Case, EDGE, copied

S = Shape((("x", -9, 9, 4), ("y", 0, 9, 4)), (("i", "int"), ("f", "flag"), ("t", "text"), ("j", "int")))
PLACE = (-3, 4)
X, Y = ("dim", "x"), ("dim", "y")
I, F, T, J = ("attr", "i"), ("attr", "f"), ("attr", "t"), ("attr", "j")


def of(value):
    """Returns the expression of a value."""
    if isinstance(value, bool):
        return ("value", "flag", value)
    return ("value", "int" if isinstance(value, int) else "text", value)


NO_INT, NO_FLAG, NO_TEXT = ("value", "int", None), ("value", "flag", None), ("value", "text", None)
TRUTHS = {True: of(True), False: of(False), None: NO_FLAG}
SAMPLES = {"int": I, "flag": F, "text": T}


class KindsTest(Case):
    def assert_kind(self, expression, kind):
        self.assert_same(self.assert_unchanged(kind_of, expression, S), kind)

    def assert_wrong(self, number, expression):
        self.assert_error(InvalidQuery, number, kind_of, expression, S)

    def test_example(self):
        s = Shape((("x", 0, 9, 4),), (("v", "int"),))
        self.assert_error(InvalidQuery, 0, kind_of, ("not", ("dim", "x")), s)

    def test_leaves(self):
        self.assert_kind(I, "int")
        self.assert_kind(F, "flag")
        self.assert_kind(T, "text")
        self.assert_kind(X, "int")
        for expression in (of(5), of(True), of(False), of("a"), NO_INT, NO_FLAG, NO_TEXT, of(EDGE), of("x" * 200)):
            self.assert_kind(expression, expression[1])

    def test_wrong_leaves(self):
        for expression in (("attr", "x"), ("attr", "none"), ("dim", "i"), ("dim", "none"), ("attr", ""), ("dim", "X")):
            self.assert_wrong(0, expression)
        for kind, value in (("int", True), ("int", "a"), ("int", 10 ** 30), ("int", -10 ** 30), ("flag", 1),
                            ("flag", 0), ("flag", "a"), ("text", 5), ("text", True), ("text", "%"), ("text", "\t"),
                            ("text", "x" * 201), ("none", 5), ("none", None), ("", "a"), ("Int", 5)):
            self.assert_wrong(0, ("value", kind, value))

    def assert_takes(self, word, wanted, kind):
        """The word takes parts of these kinds, and of no others."""
        choices = [()]
        for _ in wanted:
            choices = [choice + (name,) for choice in choices for name in SAMPLES]
        for choice in choices:
            expression = (word,) + tuple([SAMPLES[name] for name in choice])
            if choice == wanted:
                self.assert_kind(expression, kind)
            else:
                self.assert_wrong(0, expression)

    def test_words_with_fixed_kinds(self):
        for word in ("neg", "abs"):
            self.assert_takes(word, ("int",), "int")
        self.assert_takes("not", ("flag",), "flag")
        self.assert_takes("length", ("text",), "int")
        for word in ("add", "sub", "mul", "div", "mod"):
            self.assert_takes(word, ("int", "int"), "int")
        self.assert_takes("joined", ("text", "text"), "text")
        for word in ("and", "or"):
            self.assert_takes(word, ("flag", "flag"), "flag")

    def test_words_with_equal_kinds(self):
        for first in SAMPLES:
            self.assert_kind(("is missing", SAMPLES[first]), "flag")
            for second in SAMPLES:
                pair = (SAMPLES[first], SAMPLES[second])
                for word in ("eq", "ne", "lt", "le", "gt", "ge"):
                    if first == second:
                        self.assert_kind((word,) + pair, "flag")
                    else:
                        self.assert_wrong(0, (word,) + pair)
                if first == second:
                    self.assert_kind(("or else",) + pair, first)
                    self.assert_kind(("if", F) + pair, first)
                else:
                    self.assert_wrong(0, ("or else",) + pair)
                    self.assert_wrong(0, ("if", F) + pair)
                self.assert_wrong(0, ("if", I) + pair)
                self.assert_wrong(0, ("if", T) + pair)

    def test_the_number_of_the_wrong_expression(self):
        bad = ("attr", "none")
        self.assert_wrong(1, ("neg", bad))
        self.assert_wrong(2, ("add", I, bad))
        self.assert_wrong(3, ("add", ("neg", I), bad))
        self.assert_wrong(4, ("add", ("neg", I), ("abs", bad)))
        self.assert_wrong(3, ("add", ("neg", I), ("abs", F)))
        self.assert_wrong(5, ("if", ("not", F), ("add", I, bad), J))
        self.assert_wrong(6, ("if", ("not", F), ("add", I, I), bad))

    def test_the_first_of_several_wrong_expressions_counts(self):
        bad = ("attr", "none")
        self.assert_wrong(1, ("add", bad, bad))
        self.assert_wrong(1, ("not", ("neg", F)))
        self.assert_wrong(2, ("not", ("neg", bad)))
        self.assert_wrong(2, ("add", ("neg", ("value", "int", True)), bad))
        self.assert_wrong(1, ("add", ("neg", F), bad))
        self.assert_wrong(2, ("add", F, ("neg", F)))
        self.assert_wrong(5, ("and", ("eq", I, X), ("or", ("dim", "none"), bad)))
        self.assert_wrong(3, ("and", ("eq", I, ("dim", "t")), ("or", bad, bad)))

    def test_thirty_deep_and_two_hundred_expressions(self):
        deep = X
        for _ in range(29):
            deep = ("neg", deep)
        self.assert_kind(deep, "int")
        many = X
        for _ in range(6):
            many = ("add", many, many)
        self.assert_kind(many, "int")
        self.assert_wrong(128, ("add", many, ("attr", "none")))
        self.assert_wrong(0, ("joined", many, many[1]))

    def test_parts(self):
        for leaf in (I, X, of(5), NO_TEXT, ("value", "text", "neg")):
            self.assert_same(parts_of(leaf), [])
        self.assert_same(parts_of(("neg", I)), [I])
        self.assert_same(parts_of(("add", I, X)), [I, X])
        self.assert_same(parts_of(("if", F, I, X)), [F, I, X])
        expression = ("or else", I, X)
        parts_of(expression).append("more")
        self.assert_same(parts_of(expression), [I, X])


class ValuesTest(Case):
    def value(self, expression, values=(7, True, "ab", None)):
        kind_of(expression, S)
        return self.assert_unchanged(value_of, expression, S, PLACE, values)

    def assert_value(self, expression, wanted):
        self.assert_same(self.value(expression), wanted)

    def test_example(self):
        s = Shape((("x", 0, 9, 4),), (("v", "int"), ("w", "flag")))
        e = ("and", ("gt", ("attr", "v"), ("mul", ("dim", "x"), ("value", "int", 2))), ("attr", "w"))
        found = [kind_of(e, s), value_of(e, s, (3,), (7, True)), value_of(e, s, (3,), (None, False)),
                 value_of(e, s, (3,), (7, None))]
        self.assert_same(found, ["flag", True, False, None])

    def test_leaves(self):
        for value in (0, 1, -5, EDGE, -EDGE, True, False, "", "a", "x" * 200):
            self.assert_value(of(value), value)
        for expression in (NO_INT, NO_FLAG, NO_TEXT, J):
            self.assert_value(expression, None)
        self.assert_value(("add", X, of(0)), -3)
        self.assert_value(X, -3)
        self.assert_value(Y, 4)
        self.assert_value(I, 7)
        self.assert_value(F, True)
        self.assert_value(T, "ab")

    def test_words_of_one_part(self):
        for value, negative, positive in ((5, -5, 5), (-5, 5, 5), (0, 0, 0), (EDGE, -EDGE, EDGE), (-EDGE, EDGE, EDGE)):
            self.assert_value(("neg", of(value)), negative)
            self.assert_value(("abs", of(value)), positive)
        self.assert_value(("not", of(True)), False)
        self.assert_value(("not", of(False)), True)
        for text in ("", "a", "\n", "x" * 200):
            self.assert_value(("length", of(text)), len(text))

    def test_is_missing(self):
        for expression in (of(0), of(False), of(True), of(""), of("a"), X, I):
            self.assert_value(("is missing", expression), False)
        for expression in (NO_INT, NO_FLAG, NO_TEXT, J, ("neg", J), ("div", I, of(0))):
            self.assert_value(("is missing", expression), True)
        self.assert_value(("is missing", ("is missing", J)), False)

    def test_sums_differences_and_products(self):
        for first, second in ((5, 7), (-5, 7), (0, 0), (3, -3), (-4, -6)):
            self.assert_value(("add", of(first), of(second)), first + second)
            self.assert_value(("sub", of(first), of(second)), first - second)
            self.assert_value(("mul", of(first), of(second)), first * second)

    def test_division(self):
        for first, second, quotient, remainder in ((7, 2, 3, 1), (-7, 2, -4, 1), (7, -2, -4, -1), (-7, -2, 3, -1),
                                                   (6, 3, 2, 0), (-6, 3, -2, 0), (0, 5, 0, 0), (1, -5, -1, -4),
                                                   (EDGE, 1, EDGE, 0), (EDGE, -1, -EDGE, 0), (-EDGE, 2, -5 * 10 ** 29, 1)):
            self.assert_value(("div", of(first), of(second)), quotient)
            self.assert_value(("mod", of(first), of(second)), remainder)

    def test_divisor_zero(self):
        for first in (0, 1, -7):
            self.assert_value(("div", of(first), of(0)), None)
            self.assert_value(("mod", of(first), of(0)), None)

    def test_bounds_of_integers(self):
        self.assert_value(("add", of(EDGE - 1), of(1)), EDGE)
        self.assert_value(("add", of(EDGE), of(1)), None)
        self.assert_value(("add", of(-EDGE), of(-1)), None)
        self.assert_value(("sub", of(1 - EDGE), of(1)), -EDGE)
        self.assert_value(("sub", of(-EDGE), of(1)), None)
        self.assert_value(("sub", of(EDGE), of(-1)), None)
        self.assert_value(("mul", of(10 ** 15), of(10 ** 15)), None)
        self.assert_value(("mul", of(-10 ** 15), of(10 ** 15)), None)
        self.assert_value(("mul", of(10 ** 15), of(10 ** 15 - 1)), 10 ** 30 - 10 ** 15)
        self.assert_value(("mul", of(EDGE), of(-1)), -EDGE)
        self.assert_value(("sub", ("add", of(EDGE), of(1)), of(1)), None)

    def test_joined(self):
        self.assert_value(("joined", of("ab"), of("c")), "abc")
        self.assert_value(("joined", of(""), of("")), "")
        self.assert_value(("joined", of("x" * 150), of("y" * 50)), "x" * 150 + "y" * 50)
        self.assert_value(("joined", of("x" * 150), of("y" * 51)), None)
        self.assert_value(("joined", of("x" * 200), of("")), "x" * 200)
        self.assert_value(("joined", of(""), of("x" * 200)), "x" * 200)
        self.assert_value(("joined", of("x" * 200), of("y")), None)

    def test_comparisons(self):
        for ascending in ((-5, 0, 3), (False, True), ("", "B", "a", "aa")):
            for first, one in enumerate(ascending):
                for second, other in enumerate(ascending):
                    pair = (of(one), of(other))
                    self.assert_value(("eq",) + pair, first == second)
                    self.assert_value(("ne",) + pair, first != second)
                    self.assert_value(("lt",) + pair, first < second)
                    self.assert_value(("le",) + pair, first <= second)
                    self.assert_value(("gt",) + pair, first > second)
                    self.assert_value(("ge",) + pair, first >= second)

    def test_missing_parts(self):
        for word in ("neg", "abs"):
            self.assert_value((word, NO_INT), None)
        self.assert_value(("not", NO_FLAG), None)
        self.assert_value(("length", NO_TEXT), None)
        pairs = [(word, of(3), NO_INT) for word in ("add", "sub", "mul", "div", "mod")]
        pairs.append(("joined", of("a"), NO_TEXT))
        for word in ("eq", "ne", "lt", "le", "gt", "ge"):
            pairs.extend([(word, of(3), NO_INT), (word, of(True), NO_FLAG), (word, of("a"), NO_TEXT)])
        for word, known, missing in pairs:
            self.assert_value((word, known, missing), None)
            self.assert_value((word, missing, known), None)
            self.assert_value((word, missing, missing), None)
        self.assert_value(("div", NO_INT, of(0)), None)

    def test_and_or(self):
        for one, first in TRUTHS.items():
            for other, second in TRUTHS.items():
                both = False if False in (one, other) else None if None in (one, other) else True
                either = True if True in (one, other) else None if None in (one, other) else False
                self.assert_value(("and", first, second), both)
                self.assert_value(("or", first, second), either)

    def test_if(self):
        self.assert_value(("if", of(True), of(1), of(2)), 1)
        self.assert_value(("if", of(False), of(1), of(2)), 2)
        self.assert_value(("if", NO_FLAG, of(1), of(2)), None)
        self.assert_value(("if", of(True), of(1), NO_INT), 1)
        self.assert_value(("if", of(True), NO_INT, of(2)), None)
        self.assert_value(("if", of(False), NO_INT, of(2)), 2)
        self.assert_value(("if", of(False), of(1), NO_INT), None)
        self.assert_value(("if", of(False), ("div", of(1), of(0)), of(2)), 2)
        self.assert_value(("if", NO_FLAG, of(1), of(1)), None)
        self.assert_value(("if", of(False), of(True), of(False)), False)

    def test_or_else(self):
        for one, other in ((1, 2), (0, 5), (False, True), ("", "a")):
            self.assert_value(("or else", of(one), of(other)), one)
        self.assert_value(("or else", NO_INT, of(2)), 2)
        self.assert_value(("or else", of(1), NO_INT), 1)
        self.assert_value(("or else", of(0), NO_INT), 0)
        self.assert_value(("or else", of(False), NO_FLAG), False)
        self.assert_value(("or else", NO_INT, NO_INT), None)
        self.assert_value(("or else", ("add", of(EDGE), of(1)), of(-1)), -1)

    def test_values_of_the_cell(self):
        expression = ("or else", J, ("add", ("mul", I, X), ("length", T)))
        self.assert_same(self.value(expression), -19)
        self.assert_same(self.value(expression, (7, True, None, None)), None)
        self.assert_same(self.value(expression, (7, True, None, 0)), 0)

    def test_nothing_is_changed(self):
        expression = ("if", F, I, ("div", X, Y))
        kept = copied(expression)
        self.value(expression)
        parts_of(expression).clear()
        self.assert_same(expression, kept)
