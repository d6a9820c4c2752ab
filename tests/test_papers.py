"""Points 09.4 and 09.5: papers."""

from manysides.shapes import Shape
from manysides.sieves import can_pass, paper_of, shows, span_of
from tests.helpers import Case, EDGE, copied

S = Shape((("x", 0, 9, 5),), (("v", "int"), ("f", "flag"), ("t", "text"), ("u", "int")))
BOX = ((5, 9),)
MARKS = (3, ((1, -8, 7), (0, False, True), (0, "a", "c"), (3, None, None)))
V, X, F, T, U = ("attr", "v"), ("dim", "x"), ("attr", "f"), ("attr", "t"), ("attr", "u")
SUM = ("add", V, X)
NEVER = (None, None, True)
V_PAPER, X_PAPER = ((-8, 7, True), ()), ((5, 9, False), ())
SUM_PAPER = ((-3, 16, True), (V_PAPER, X_PAPER))


class PapersTest(Case):
    def assert_shows(self, wanted, expression, paper):
        self.assert_same(self.assert_unchanged(shows, expression, S, BOX, MARKS, paper), wanted)

    def test_papers(self):
        self.assert_same(self.assert_unchanged(paper_of, SUM, S, BOX, MARKS), SUM_PAPER)
        self.assert_same(paper_of(("value", "text", "a"), S, BOX, MARKS), (("a", "a", False), ()))
        expression = ("if", F, ("neg", U), ("length", T))
        wanted = ((0, 200, True), (((False, True, False), ()), (NEVER, ((NEVER, ()),)),
                                   ((0, 200, False), ((("a", "c", False), ()),))))
        self.assert_same(paper_of(expression, S, BOX, MARKS), wanted)

    def test_own_papers_show_their_spans(self):
        for expression in (V, X, F, T, U, SUM, ("gt", SUM, ("value", "int", 20)), ("not", ("is missing", U)),
                           ("if", F, ("neg", U), ("length", T)), ("or else", U, ("div", V, X)),
                           ("and", F, ("lt", T, ("joined", T, T))), ("mod", V, V), ("value", "int", None)):
            paper = paper_of(expression, S, BOX, MARKS)
            self.assert_shows(True, expression, paper)
            self.assert_same(paper[0], span_of(expression, S, BOX, MARKS))

    def test_wider_spans(self):
        for span in ((-3, 16, True), (-4, 16, True), (-3, 17, True), (-EDGE, EDGE, True)):
            self.assert_shows(True, SUM, (span, (V_PAPER, X_PAPER)))
        self.assert_shows(True, SUM, ((-13, 16, True), (((-18, 7, True), ()), X_PAPER)))
        self.assert_shows(True, X, ((5, 9, True), ()))
        self.assert_shows(True, U, ((-1, 1, True), ()))
        self.assert_shows(True, ("neg", U), (NEVER, ((NEVER, ()),)))
        self.assert_shows(True, ("neg", U), ((-1, 1, True), (((-1, 1, True), ()),)))
        self.assert_shows(True, ("neg", U), ((-5, -5, True), ((NEVER, ()),)))
        self.assert_shows(True, ("neg", X), ((-9, -5, True), (((5, 9, True), ()),)))

    def test_spans_follow_from_the_papers_of_the_parts(self):
        wide = ((-18, 7, True), ())
        self.assert_shows(False, SUM, ((-3, 16, True), (wide, X_PAPER)))
        self.assert_shows(False, SUM, ((-12, 16, True), (wide, X_PAPER)))
        self.assert_shows(False, ("neg", X), ((-9, -5, False), (((5, 9, True), ()),)))
        self.assert_shows(False, ("is missing", X), ((False, False, False), (((5, 9, True), ()),)))
        self.assert_shows(True, ("is missing", X), ((False, True, False), (((5, 9, True), ()),)))
        self.assert_shows(False, ("neg", U), (NEVER, (((0, 0, True), ()),)))

    def test_narrower_spans(self):
        for span in ((-2, 16, True), (-3, 15, True), (-3, 16, False), NEVER, (0, 0, True)):
            self.assert_shows(False, SUM, (span, (V_PAPER, X_PAPER)))
        for span in ((6, 9, False), (5, 8, False), (6, 8, True), NEVER):
            self.assert_shows(False, X, (span, ()))
        for part in ((-7, 7, True), (-8, 6, True), (-8, 7, False)):
            self.assert_shows(False, SUM, ((-EDGE, EDGE, True), ((part, ()), X_PAPER)))
        self.assert_shows(False, U, ((-1, 1, False), ()))
        for span in ((False, False, False), (True, True, False), NEVER):
            self.assert_shows(False, F, (span, ()))
        for span in (("b", "c", False), ("a", "b", False), NEVER):
            self.assert_shows(False, T, (span, ()))

    def test_ends_in_the_wrong_order(self):
        for span in ((9, 5, False), (9, 5, True), (EDGE, -EDGE, True)):
            self.assert_shows(False, X, (span, ()))
            self.assert_shows(False, U, (span, ()))
        self.assert_shows(False, F, ((True, False, True), ()))
        self.assert_shows(False, T, (("c", "a", True), ()))

    def test_ends_of_another_kind(self):
        for expression, spans in ((X, ((False, True, True), ("", "~", True), (5, "~", True), (True, 9, False),
                                       (5, [9], True), (5, (9,), True), (-10 ** 30, 9, True), (5, 10 ** 30, True))),
                                  (U, ((True, True, True), (False, 5, True), ("a", "a", True), (0, True, True),
                                       (None, 5, True), (5, None, True))),
                                  (F, ((0, 1, False), (0, 1, True), (False, 1, True), (0, True, True), ("", "a", True))),
                                  (T, ((0, 5, True), (False, True, True), ("", "~" * 201, True), ("a", "c\t", True),
                                       (["a"], ["c"], True))),
                                  (V, ((-8, None, True), (None, 7, True), (None, 7, False)))):
            for span in spans:
                self.assert_shows(False, expression, (span, ()))

    def test_missing_is_a_truth_value(self):
        for missing in (1, 0, None, "True", "", (), [True]):
            self.assert_shows(False, V, ((-8, 7, missing), ()))
            self.assert_shows(False, U, ((None, None, missing), ()))
        self.assert_shows(False, U, ((None, None, False), ()))

    def test_things_that_are_no_papers(self):
        for paper in (None, True, False, 0, 5, "", "ab", [], (), (1,), (1, 2), (1, 2, 3), (None, None), NEVER, ((), ()),
                      ((5, 9, False),), ((5, 9, False), (), ()), [(5, 9, False), ()], ([5, 9, False], ()),
                      ((5, 9, False), []), ((5, 9, False), None), ((5, 9, False), ""), ((5, 9, False), 0),
                      ((5, 9), ()), ((5, 9, False, False), ()), ("abc", ()), (None, ()), ((), ((5, 9, False), ())),
                      ((5, 9, False), (X_PAPER,)), ((5, 9, False), (None,))):
            self.assert_shows(False, X, paper)
            self.assert_shows(False, SUM, ((-EDGE, EDGE, True), (V_PAPER, paper)))
            self.assert_shows(False, SUM, ((-EDGE, EDGE, True), (paper, X_PAPER)))

    def test_parts_left_out_or_put_in(self):
        top = (-3, 16, True)
        for papers in ((), (V_PAPER,), (X_PAPER,), (X_PAPER, V_PAPER), (V_PAPER, X_PAPER, X_PAPER), (SUM_PAPER,),
                       [V_PAPER, X_PAPER], V_PAPER, (V_PAPER, None), None):
            self.assert_shows(False, SUM, (top, papers))
        self.assert_shows(False, V, ((-8, 7, True), (V_PAPER,)))
        self.assert_shows(False, ("neg", SUM), ((-16, 3, True), ()))
        self.assert_shows(False, ("neg", SUM), ((-16, 3, True), ((top, ()),)))
        self.assert_shows(True, ("neg", SUM), ((-16, 3, True), (SUM_PAPER,)))

    def test_the_paper_of_another_expression(self):
        self.assert_shows(False, ("sub", V, X), SUM_PAPER)
        self.assert_shows(False, ("add", X, V), SUM_PAPER)
        self.assert_shows(True, ("add", X, V), (SUM_PAPER[0], (X_PAPER, V_PAPER)))

    def test_chunks_that_can_be_passed_over(self):
        expression = ("gt", SUM, ("value", "int", 20))
        paper = paper_of(expression, S, BOX, MARKS)
        self.assert_same([shows(expression, S, BOX, MARKS, paper), can_pass(paper)], [True, True])
        wider = ((False, True, True), paper[1])
        self.assert_same([shows(expression, S, BOX, MARKS, wider), can_pass(wider)], [True, False])

    def test_nothing_is_changed(self):
        paper = ((-EDGE, EDGE, True), (([1], []), X_PAPER))
        kept = copied(paper)
        shows(SUM, S, BOX, MARKS, paper)
        self.assert_same(paper, kept)
