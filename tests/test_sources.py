"""Point 13.2: sources; and whole_region."""

from manysides.arrays import Array
from manysides.marks import marks_of
from manysides.regions import whole_region
from manysides.shapes import Shape
from manysides.sources import MemorySource
from tests.helpers import Case

SHAPE = Shape((("x", 0, 9, 4), ("y", -1, 3, 2)), (("v", "int"), ("f", "flag")))
CELLS = {(9, 3): (1, True), (0, -1): (2, None), (1, 0): (-3, False), (4, 1): (None, None)}


def source():
    return MemorySource({"m": Array(SHAPE, CELLS), "none": Array(SHAPE, {})})


class MemorySourceTest(Case):
    def test_shapes(self):
        told = source()
        self.assert_same(told.shapes(), {"m": SHAPE, "none": SHAPE})
        told.shapes().clear()
        self.assert_same(sorted(told.shapes()), ["m", "none"])
        self.assert_same(MemorySource({}).shapes(), {})

    def test_chunks(self):
        told = source()
        self.assert_same(told.chunks("m"), [(0, 0), (1, 1), (2, 2)])
        self.assert_same(told.chunks("none"), [])
        told.chunks("m").clear()
        self.assert_same(told.chunks("m"), [(0, 0), (1, 1), (2, 2)])

    def test_chunks_are_ascending(self):
        cells = {(0, 3): (1, True), (1, -1): (2, True), (1, 1): (3, True), (9, 0): (4, True), (8, 2): (5, True)}
        told = MemorySource({"m": Array(SHAPE, cells)})
        self.assert_same(told.chunks("m"), [(0, 0), (0, 1), (0, 2), (2, 0), (2, 1)])

    def test_marks(self):
        told = source()
        self.assert_same(told.marks("m", (0, 0)), (2, ((0, -3, 2), (1, False, False))))
        self.assert_same(told.marks("m", (1, 1)), (1, ((1, None, None), (1, None, None))))
        self.assert_same(told.marks("m", (2, 2)), marks_of(SHAPE, {(9, 3): (1, True)}))
        self.assert_same(told.reads(), [])

    def test_read(self):
        told = source()
        self.assert_same(sorted(told.read("m", (0, 0)).items()), [((0, -1), (2, None)), ((1, 0), (-3, False))])
        self.assert_same(told.read("m", (2, 2)), {(9, 3): (1, True)})
        self.assert_same(told.reads(), [("m", (0, 0)), ("m", (2, 2))])

    def test_reads_are_listed_in_order_with_equal_ones(self):
        told = source()
        for chunk in ((2, 2), (0, 0), (2, 2)):
            told.read("m", chunk)
        self.assert_same(told.reads(), [("m", (2, 2)), ("m", (0, 0)), ("m", (2, 2))])
        self.assertIsNone(told.forget_reads())
        self.assert_same(told.reads(), [])
        told.read("m", (0, 0))
        self.assert_same(told.reads(), [("m", (0, 0))])

    def test_what_is_returned_may_be_changed(self):
        told = source()
        told.read("m", (0, 0)).clear()
        told.reads().clear()
        self.assert_same(len(told.read("m", (0, 0))), 2)
        self.assert_same(told.reads(), [("m", (0, 0)), ("m", (0, 0))])
        reads = told.reads()
        told.forget_reads()
        self.assertEqual(len(reads), 2)

    def test_what_is_passed_is_copied(self):
        array = Array(SHAPE, CELLS)
        arrays = {"m": array}
        told = self.assert_unchanged(MemorySource, arrays)
        array.cells.clear()
        arrays["k"] = array
        self.assert_same(told.chunks("m"), [(0, 0), (1, 1), (2, 2)])
        self.assert_same(sorted(told.shapes()), ["m"])
        self.assert_same(told.marks("m", (0, 0))[0], 2)


class RegionsTest(Case):
    def test_whole_region(self):
        self.assert_same(self.assert_unchanged(whole_region, SHAPE), ((0, 9), (-1, 3)))
        self.assert_same(whole_region(Shape((("x", -5, -5, 1),), SHAPE.attrs)), ((-5, -5),))
