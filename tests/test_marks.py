"""Points 08.1 and 08.2."""

from manysides.marks import keeps_to, marks_of
from manysides.shapes import Shape
from tests.helpers import Case, EDGE, LINE, MIXED


class MarksTest(Case):
    def assert_marks(self, shape, cells, marks):
        self.assert_same(self.assert_unchanged(marks_of, shape, cells), marks)
        self.assert_same(self.assert_unchanged(keeps_to, shape, cells, marks), True)

    def test_example(self):
        s = Shape((("x", 0, 9, 5),), (("v", "int"), ("w", "flag")))
        marks = (2, ((0, -8, 7), (2, None, None)))
        self.assert_marks(s, {(5,): (7, None), (6,): (-8, None)}, marks)
        self.assert_same(keeps_to(s, {(5,): (6, True)}, marks), False)

    def test_marks(self):
        self.assert_marks(LINE, {(1,): (5,)}, (1, ((0, 5, 5),)))
        self.assert_marks(LINE, {(1,): (None,)}, (1, ((1, None, None),)))
        self.assert_marks(LINE, {(1,): (0,), (3,): (None,)}, (2, ((1, 0, 0),)))
        self.assert_marks(LINE, {(1,): (EDGE,), (2,): (None,), (3,): (-EDGE,), (0,): (None,)}, (4, ((2, -EDGE, EDGE),)))

    def test_marks_of_each_kind(self):
        cells = {(0,): (3, True, "b"), (1,): (-1, None, "Z"), (2,): (2, False, "a"), (3,): (None, True, "")}
        self.assert_marks(MIXED, cells, (4, ((1, -1, 3), (1, False, True), (0, "", "b"))))
        self.assert_marks(MIXED, {(0,): (0, False, "Z"), (1,): (0, False, "a")},
                          (2, ((0, 0, 0), (0, False, False), (0, "Z", "a"))))
        self.assert_marks(MIXED, {(0,): (1, True, "")}, (1, ((0, 1, 1), (0, True, True), (0, "", ""))))

    def assert_keeps(self, wanted, cells, marks, shape=LINE):
        self.assert_same(self.assert_unchanged(keeps_to, shape, cells, marks), wanted)

    def test_values_at_the_ends(self):
        marks = (5, ((0, -8, 7),))
        for value in (-8, -7, 0, 7):
            self.assert_keeps(True, {(1,): (value,)}, marks)
        for value in (-9, 8, EDGE, -EDGE, None):
            self.assert_keeps(False, {(1,): (value,)}, marks)

    def test_missing_values(self):
        self.assert_keeps(True, {(1,): (None,), (2,): (None,), (3,): (5,)}, (9, ((1, 5, 5),)))
        self.assert_keeps(False, {(1,): (5,), (2,): (None,)}, (9, ((0, 5, 5),)))
        self.assert_keeps(True, {(1,): (5,)}, (9, ((1, 5, 5),)))
        self.assert_keeps(True, {(1,): (None,)}, (9, ((9, None, None),)))
        self.assert_keeps(False, {(1,): (0,)}, (9, ((9, None, None),)))

    def test_each_cell_and_each_attribute_counts(self):
        marks = (3, ((0, 0, 5), (1, False, False), (1, "a", "b")))
        self.assert_keeps(True, {(0,): (0, False, "a"), (1,): (5, None, None), (2,): (3, False, "ab")}, marks, MIXED)
        for values in ((6, False, "a"), (0, True, "a"), (0, False, "ba"), (0, False, "Z"), (None, False, "a")):
            self.assert_keeps(False, {(0,): (0, False, "a"), (1,): values}, marks, MIXED)
            self.assert_keeps(False, {(0,): values, (1,): (0, False, "a")}, marks, MIXED)

    def test_the_number_of_cells_does_not_count(self):
        self.assert_keeps(True, {(1,): (5,), (2,): (5,)}, (1, ((0, 5, 5),)))
        self.assert_keeps(True, {(1,): (5,)}, (100, ((0, 5, 5),)))
        self.assert_keeps(True, {}, (1, ((0, 5, 5),)))
