"""Points 09.1 to 09.3 and 09.5: spans."""

import itertools
import random

from manysides.chunks import box_of_chunk
from manysides.expressions import kind_of, value_of
from manysides.marks import keeps_to, marks_of
from manysides.shapes import Shape
from manysides.sieves import allows, can_pass, paper_of, span_of
from tests.helpers import Case, EDGE, LINE

NEVER = (None, None, True)
TOP = "~" * 200
YES, NO, ANY = (True, True, False), (False, False, False), (False, True, False)


def kind_in(span, kind):
    """Returns the kind of the ends of a span, or another one if it has none."""
    if isinstance(span[0], bool):
        return "flag"
    return kind if span[0] is None else "text" if isinstance(span[0], str) else "int"


def over(word, spans, kind="int"):
    """Returns the span of a word over parts with these spans; those without ends are of the kind."""
    names = [f"p{index}" for index in range(len(spans))]
    kinds = [kind_in(span, kind) for span in spans]
    shape = Shape((("x", 0, 9, 5),), tuple(zip(names, kinds)))
    entries = tuple([(2 if missing else 0, least, greatest) for least, greatest, missing in spans])
    expression = (word,) + tuple([("attr", name) for name in names])
    kind_of(expression, shape)
    return span_of(expression, shape, ((0, 4),), (2, entries))


def hull(results):
    """Returns the least span that holds some values, or None for a missing one."""
    known = [result for result in results if result is not None]
    return (min(known), max(known), None in results) if known else NEVER


def values_in(span):
    """Returns the list of the values in a small span, and None if it can be missing."""
    least, greatest, missing = span
    values = [] if least is None else [value for value in (False, True) if least <= value <= greatest] if \
        isinstance(least, bool) else list(range(least, greatest + 1))
    return values + [None] * missing


INT_SPANS = [(least, greatest, False) for least in range(-3, 4) for greatest in range(least, 4)]
FLAG_SPANS = [(False, False, False), (False, True, False), (True, True, False), (False, False, True),
              (False, True, True), (True, True, True), NEVER]


class SpansTest(Case):
    def assert_span(self, wanted, word, *spans, kind="int"):
        self.assert_same(over(word, spans, kind), wanted)

    def exactly(self, word, spans):
        """Returns the least span that holds all values of the word over values in the spans."""
        kinds = ["flag" if isinstance(span[0], bool) else "int" for span in spans]
        results = []
        for choice in itertools.product(*[values_in(span) for span in spans]):
            parts = tuple([("value", kind, value) for kind, value in zip(kinds, choice)])
            results.append(value_of((word,) + parts, LINE, (0,), (0,)))
        return hull(results)

    def test_example(self):
        s = Shape((("x", 0, 9, 5),), (("v", "int"),))
        e = ("gt", ("add", ("attr", "v"), ("dim", "x")), ("value", "int", 20))
        self.assert_same(span_of(e, s, ((5, 9),), (3, ((1, -8, 7),))), (False, False, True))
        e = ("div", ("value", "int", 7), ("attr", "v"))
        self.assert_same(span_of(e, s, ((5, 9),), (3, ((0, -2, 3),))), (-7, 7, True))
        self.assert_same([allows((False, False, True), True), allows((False, False, True), None)], [False, True])

    def test_leaves(self):
        shape = Shape((("x", 0, 9, 5), ("y", -9, 0, 4)), (("v", "int"), ("f", "flag"), ("t", "text")))
        box, marks = ((5, 9), (-9, -6)), (4, ((0, -8, 7), (1, True, True), (4, None, None)))
        for expression, span in ((("value", "int", 5), (5, 5, False)), (("value", "flag", False), NO),
                                 (("value", "text", ""), ("", "", False)), (("value", "text", None), NEVER),
                                 (("value", "int", None), NEVER), (("value", "int", 0), (0, 0, False)),
                                 (("attr", "v"), (-8, 7, False)), (("attr", "f"), (True, True, True)),
                                 (("attr", "t"), NEVER), (("dim", "x"), (5, 9, False)), (("dim", "y"), (-9, -6, False))):
            self.assert_same(self.assert_unchanged(span_of, expression, shape, box, marks), span)

    def test_words_over_small_integers(self):
        for span in INT_SPANS:
            for word in ("neg", "abs"):
                self.assert_span(self.exactly(word, (span,)), word, span)
        for first in INT_SPANS:
            for second in INT_SPANS:
                for word in ("add", "sub", "mul", "div", "eq", "ne", "lt", "le", "gt", "ge"):
                    self.assert_span(self.exactly(word, (first, second)), word, first, second)

    def test_flags(self):
        for span in FLAG_SPANS:
            self.assert_span(self.exactly("not", (span,)), "not", span, kind="flag")
        for first in FLAG_SPANS:
            for second in FLAG_SPANS:
                for word in ("and", "or"):
                    self.assert_span(self.exactly(word, (first, second)), word, first, second, kind="flag")
                for word in ("eq", "ne", "lt", "le", "gt", "ge"):
                    self.assert_span(self.exactly(word, (first, second)), word, first, second, kind="flag")

    def test_parts_that_can_be_missing(self):
        one, other, gap = (1, 2, False), (3, 4, False), True
        for word, span in (("add", (4, 6)), ("sub", (-3, -1)), ("mul", (3, 8)), ("div", (0, 0)), ("mod", (0, 3)),
                           ("eq", (False, False)), ("ne", (True, True)), ("lt", (True, True)), ("le", (True, True)),
                           ("gt", (False, False)), ("ge", (False, False))):
            self.assert_span(span + (False,), word, one, other)
            self.assert_span(span + (True,), word, one[:2] + (gap,), other)
            self.assert_span(span + (True,), word, one, other[:2] + (gap,))
            self.assert_span(span + (True,), word, one[:2] + (gap,), other[:2] + (gap,))
        self.assert_span((-2, -1, True), "neg", (1, 2, True))
        self.assert_span((1, 2, True), "abs", (1, 2, True))
        self.assert_span((1, 1, True), "length", ("a", "a", True))
        self.assert_span(("ab", "ab", True), "joined", ("a", "a", True), ("b", "b", False))

    def test_parts_without_ends(self):
        for word in ("neg", "abs"):
            self.assert_span(NEVER, word, NEVER)
        self.assert_span(NEVER, "not", NEVER, kind="flag")
        self.assert_span(NEVER, "length", NEVER, kind="text")
        for word in ("add", "sub", "mul", "div", "mod", "eq", "ne", "lt", "le", "gt", "ge"):
            self.assert_span(NEVER, word, NEVER, (1, 2, False))
            self.assert_span(NEVER, word, (1, 2, False), NEVER)
            self.assert_span(NEVER, word, NEVER, NEVER)
        for word in ("joined", "eq", "ne", "lt", "le", "gt", "ge"):
            self.assert_span(NEVER, word, NEVER, ("a", "b", False), kind="text")
            self.assert_span(NEVER, word, ("a", "a", False), NEVER, kind="text")

    def test_abs(self):
        for span, wanted in (((0, 5), (0, 5)), ((3, 5), (3, 5)), ((-5, -3), (3, 5)), ((-5, 0), (0, 5)),
                             ((-5, 3), (0, 5)), ((-3, 5), (0, 5)), ((-1, 0), (0, 1)), ((-EDGE, EDGE), (0, EDGE))):
            self.assert_span(wanted + (False,), "abs", span + (False,))

    def test_length(self):
        self.assert_span((0, 0, False), "length", ("", "", False))
        self.assert_span((200, 200, False), "length", (TOP, TOP, False))
        self.assert_span((0, 200, False), "length", ("a", "b", False))
        self.assert_span((0, 200, True), "length", ("aaa", "aab", True))

    def test_integers_beyond_the_bounds(self):
        high, low, top = (EDGE - 1, EDGE, False), (-EDGE, 1 - EDGE, False), (EDGE, EDGE, False)
        self.assert_span((EDGE, EDGE, True), "add", high, (1, 2, False))
        self.assert_span((EDGE - 1, EDGE, True), "add", high, (0, 2, False))
        self.assert_span((EDGE - 1, EDGE, False), "add", high, (0, 0, False))
        self.assert_span(NEVER, "add", high, (2, 3, False))
        self.assert_span((-EDGE, -EDGE, True), "sub", low, (1, 2, False))
        self.assert_span(NEVER, "sub", low, (2, 2, False))
        self.assert_span((-EDGE, 2 - EDGE, True), "add", low, (-5, 1, False))
        self.assert_span((-EDGE, EDGE, True), "mul", (-EDGE, EDGE, False), (2, 2, False))
        self.assert_span((-EDGE, EDGE, True), "mul", (-EDGE, EDGE, False), (-2, 2, False))
        self.assert_span((0, EDGE, True), "mul", high, (0, 2, False))
        self.assert_span((-EDGE, 0, True), "mul", high, (-2, 0, False))
        self.assert_span(NEVER, "mul", top, (2, 3, False))
        self.assert_span(NEVER, "mul", top, (-3, -2, False))
        self.assert_span((-EDGE, EDGE, False), "mul", (-EDGE, EDGE, False), (-1, 1, False))
        self.assert_span((-EDGE, EDGE, False), "neg", (-EDGE, EDGE, False))
        self.assert_span((10 ** 29, EDGE, True), "mul", (10 ** 14, 10 ** 15, False), (10 ** 15, 10 ** 15, False))

    def test_div(self):
        for first, second, wanted in (((7, 7), (-2, 3), (-7, 7, True)), ((5, 9), (0, 0), NEVER),
                                      ((5, 9), (0, 2), (2, 9, True)), ((5, 9), (-2, 0), (-9, -3, True)),
                                      ((5, 9), (2, 4), (1, 4, False)), ((-9, 5), (2, 4), (-5, 2, False)),
                                      ((5, 9), (-4, -2), (-5, -2, False)), ((-9, 5), (-4, -2), (-3, 4, False)),
                                      ((0, 0), (-1, 1), (0, 0, True)), ((-EDGE, EDGE), (-1, -1), (-EDGE, EDGE, False))):
            self.assert_span(wanted, "div", first + (False,), second + (False,))
        self.assert_span((5, 9, True), "div", (5, 9, False), (1, 1, True))

    def test_mod(self):
        for second, wanted in (((0, 0), NEVER), ((1, 1), (0, 0, False)), ((-1, -1), (0, 0, False)),
                               ((0, 5), (0, 4, True)), ((-5, 0), (-4, 0, True)), ((-5, 7), (-4, 6, True)),
                               ((3, 5), (0, 4, False)), ((-5, -3), (-4, 0, False)), ((-1, 1), (0, 0, True)),
                               ((1, EDGE), (0, EDGE - 1, False)), ((-EDGE, EDGE), (1 - EDGE, EDGE - 1, True))):
            for first in ((0, 0, False), (-100, 100, False), (2, 2, False)):
                self.assert_span(wanted, "mod", first, second + (False,))
        self.assert_span(NEVER, "mod", NEVER, (3, 5, False))

    def test_joined(self):
        self.assert_span(("ab", "ab", False), "joined", ("a", "a", False), ("b", "b", False))
        self.assert_span(("", "", False), "joined", ("", "", False), ("", "", False))
        self.assert_span(("a", TOP, True), "joined", ("a", "b", False), ("c", "c", False))
        self.assert_span(("a", TOP, True), "joined", ("a", "a", False), ("c", "d", False))
        long, half = "x" * 200, "x" * 100
        self.assert_span((long, long, False), "joined", (half, half, False), (half, half, False))
        self.assert_span(NEVER, "joined", (long, long, False), ("b", "b", False))
        self.assert_span((long, long, False), "joined", (long, long, False), ("", "", False))

    def test_comparisons_of_texts(self):
        for first, second, results in ((("a", "b"), ("b", "c"), (ANY, ANY, ANY, YES, NO, ANY)),
                                       (("a", "b"), ("c", "d"), (NO, YES, YES, YES, NO, NO)),
                                       (("a", "a"), ("a", "a"), (YES, NO, NO, YES, NO, YES)),
                                       (("c", "d"), ("a", "b"), (NO, YES, NO, NO, YES, YES)),
                                       (("b", "c"), ("a", "b"), (ANY, ANY, NO, ANY, ANY, YES)),
                                       (("a", "a"), ("a", "b"), (ANY, ANY, ANY, YES, NO, ANY))):
            for word, wanted in zip(("eq", "ne", "lt", "le", "gt", "ge"), results):
                self.assert_span(wanted, word, first + (False,), second + (False,))

    def test_is_missing(self):
        for span, wanted in (((1, 2, False), NO), ((1, 2, True), ANY), (NEVER, YES), ((True, True, False), NO),
                             (("a", "b", True), ANY)):
            self.assert_span(wanted, "is missing", span)
        self.assert_span(YES, "is missing", NEVER, kind="text")

    def test_if(self):
        one, other = (1, 2, False), (5, 9, True)
        for condition, wanted in ((YES, one), (NO, other), (ANY, (1, 9, True)), ((True, True, True), (1, 2, True)),
                                  ((False, False, True), other), ((False, True, True), (1, 9, True))):
            self.assert_span(wanted, "if", condition, one, other)
        self.assert_span((1, 4, False), "if", ANY, (1, 2, False), (3, 4, False))
        self.assert_span((1, 4, True), "if", (False, True, True), (1, 2, False), (3, 4, False))
        self.assert_span((1, 2, True), "if", ANY, one, NEVER)
        self.assert_span((5, 9, True), "if", ANY, NEVER, (5, 9, False))
        self.assert_span(NEVER, "if", YES, NEVER, one)
        self.assert_span(one, "if", NO, NEVER, one)
        self.assert_span(NEVER, "if", ANY, NEVER, NEVER)
        self.assert_span(("a", "d", False), "if", ANY, ("c", "d", False), ("a", "b", False))
        shape = Shape(LINE.dims, (("v", "int"),))
        expression = ("if", ("value", "flag", None), ("attr", "v"), ("value", "int", 3))
        self.assert_same(span_of(expression, shape, ((0, 4),), (1, ((0, 1, 2),))), NEVER)

    def test_or_else(self):
        for first, second, wanted in (((1, 2, False), (5, 9, True), (1, 2, False)),
                                      ((1, 2, False), NEVER, (1, 2, False)),
                                      (NEVER, (5, 9, False), (5, 9, False)), (NEVER, (5, 9, True), (5, 9, True)),
                                      (NEVER, NEVER, NEVER), ((1, 2, True), (5, 9, False), (1, 9, False)),
                                      ((1, 2, True), (5, 9, True), (1, 9, True)), ((1, 2, True), NEVER, (1, 2, True)),
                                      ((5, 9, True), (-1, 6, False), (-1, 9, False))):
            self.assert_span(wanted, "or else", first, second)

    def test_allows(self):
        for value, wanted in ((-1, False), (0, True), (1, True), (5, True), (6, False), (None, False)):
            self.assert_same(allows((0, 5, False), value), wanted)
        self.assert_same([allows((0, 5, True), value) for value in (3, 6, None)], [True, False, True])
        self.assert_same([allows(NEVER, value) for value in (0, True, False, "", None)], [False] * 4 + [True])
        self.assert_same([allows(YES, value) for value in (True, False, None)], [True, False, False])
        self.assert_same([allows(("a", "b", False), value) for value in ("", "a", "ab", "b", "ba")],
                         [False, True, True, True, False])

    def test_allows_no_value_of_another_kind(self):
        self.assert_same([allows((0, 1, True), value) for value in (True, False, "0")], [False] * 3)
        self.assert_same([allows((False, True, True), value) for value in (0, 1, "")], [False] * 3)

    def test_can_pass(self):
        for span, wanted in ((NO, True), (ANY, False), (YES, False), ((False, False, True), True), (NEVER, True),
                             ((False, True, True), False), ((True, True, True), False)):
            self.assert_same(can_pass((span, ())), wanted)
        expression = ("gt", ("attr", "v"), ("value", "int", 4))
        for least, greatest, wanted in ((0, 4, True), (0, 5, False), (5, 6, False)):
            paper = paper_of(expression, LINE, ((0, 4),), (2, ((1, least, greatest),)))
            self.assert_same(can_pass(paper), wanted)


WIDE = Shape((("x", -4, 7, 5), ("y", 0, 3, 2)), (("i", "int"), ("f", "flag"), ("t", "text"), ("j", "int")))
BINARY = {"int": ("add", "sub", "mul", "div", "mod"), "text": ("joined",), "flag": ("and", "or")}
EQUALITIES = ("eq", "ne", "lt", "le", "gt", "ge")
CONSTANTS = {"int": [0, 1, -1, 2, -3, 5, EDGE, -EDGE, None], "flag": [True, False, None], "text": ["", "a", "b", TOP, None]}
PALETTES = {"int": [0, 1, -1, 2, -4, 7, EDGE, 1 - EDGE], "flag": [True, False], "text": ["", "a", "ab", "x" * 150]}


def leaf(rolls, kind):
    """Returns an expression without parts of a kind."""
    names = [("attr", name) for name, other in WIDE.attrs if other == kind]
    if kind == "int":
        names.extend([("dim", "x"), ("dim", "y")])
    return rolls.choice(names + [("value", kind, rolls.choice(CONSTANTS[kind]))])


def grown(rolls, kind, depth):
    """Returns an expression of a kind."""
    if depth == 0 or rolls.random() < 0.15:
        return leaf(rolls, kind)

    def part(wanted):
        return grown(rolls, wanted, depth - 1)

    other = rolls.choice(["int", "flag", "text"])
    choices = [("if", part("flag"), part(kind), part(kind)), ("or else", part(kind), part(kind))]
    choices.append((rolls.choice(BINARY[kind]), part(kind), part(kind)))
    if kind == "int":
        choices.extend([("neg", part("int")), ("abs", part("int")), ("length", part("text"))])
    if kind == "flag":
        choices.extend([("not", part("flag")), ("is missing", part(other))])
        choices.extend([(rolls.choice(EQUALITIES), part(other), part(other))] * 2)
    return rolls.choice(choices)


def cells_of(rolls, box):
    """Returns a dict of some cells in a box."""
    palettes = [rolls.sample(PALETTES[kind], rolls.choice([1, 2])) + [None] * rolls.choice([0, 0, 1])
                for name, kind in WIDE.attrs]
    places = itertools.product(*[range(least, greatest + 1) for least, greatest in box])
    return {place: tuple([rolls.choice(palette) for palette in palettes]) for place in places if rolls.random() < 0.7}


class ValuesLieInSpansTest(Case):
    def test_values_of_all_cells_that_keep_to_the_marks(self):
        rolls = random.Random(5)
        for _ in range(1500):
            box = box_of_chunk(WIDE, (rolls.randrange(3), rolls.randrange(2)))
            cells = cells_of(rolls, box) or {(box[0][0], box[1][0]): (0, None, "a", 1)}
            marks = marks_of(WIDE, cells)
            others = [other for other in [cells, cells_of(rolls, box)] if keeps_to(WIDE, other, marks)]
            expression = grown(rolls, rolls.choice(["int", "flag", "flag", "text"]), 3)
            self.assertIsNotNone(kind_of(expression, WIDE))
            span = span_of(expression, WIDE, box, marks)
            for place, values in [pair for other in others for pair in other.items()]:
                value = value_of(expression, WIDE, place, values)
                self.assertTrue(allows(span, value), (expression, place, values, span, value))
