"""Points 04.1, 04.2 and 00.4."""

from manysides.arrays import Array, check_array, sorted_cells
from manysides.errors import InvalidCell
from manysides.shapes import Shape
from tests.helpers import Case, LINE, MIXED, PLANE


class ArraysTest(Case):
    def assert_wrong(self, index, shape, cells):
        self.assert_error(InvalidCell, index, check_array, Array(shape, cells))

    def assert_right(self, shape, cells):
        self.assertIsNone(check_array(Array(shape, cells)))

    def test_examples(self):
        s = Shape((("x", 0, 9, 4),), (("v", "int"),))
        self.assert_same(sorted_cells(Array(s, {(7,): (1,), (2,): (None,)})), [((2,), (None,)), ((7,), (1,))])
        self.assert_wrong(0, s, {(10,): (1,)})

    def test_attributes_of_the_object(self):
        array = Array(PLANE, {(0, 0): (1,)})
        self.assertTrue(array.shape == PLANE)
        self.assert_same(array.cells, {(0, 0): (1,)})

    def test_the_dict_is_copied(self):
        cells = {(1,): (2,)}
        array = Array(LINE, cells)
        cells[(3,)] = (4,)
        del cells[(1,)]
        self.assert_same(array.cells, {(1,): (2,)})
        array.cells[(5,)] = (6,)
        self.assert_same(cells, {(3,): (4,)})

    def test_sorted_cells_is_a_new_list(self):
        array = Array(LINE, {(1,): (2,)})
        sorted_cells(array).append("more")
        self.assert_same(sorted_cells(array), [((1,), (2,))])
        self.assert_same(array.cells, {(1,): (2,)})

    def test_order_of_places(self):
        places = [(-5, 9), (-5, 10), (0, -3), (0, 2), (1, -9), (10, 0)]
        shape = Shape((("x", -5, 10, 4), ("y", -9, 10, 4)), (("v", "int"),))
        array = Array(shape, {place: (None,) for place in reversed(places)})
        self.assert_same([place for place, values in sorted_cells(array)], places)

    def test_cells_without_order_of_values(self):
        array = Array(LINE, {(3,): (None,), (1,): ("a",), (2,): (5,)})
        self.assert_same(sorted_cells(array), [((1,), ("a",)), ((2,), (5,)), ((3,), (None,))])

    def test_equality(self):
        array = Array(LINE, {(1,): (2,), (3,): (None,)})
        self.assertTrue(array == Array(Shape(LINE.dims, LINE.attrs), {(3,): (None,), (1,): (2,)}))
        for other in (Array(LINE, {(1,): (2,)}), Array(LINE, {(1,): (2,), (3,): (0,)}), Array(LINE, {}),
                      Array(Shape((("x", 0, 9, 4),), LINE.attrs), array.cells),
                      Array(LINE, {(1,): (2,), (4,): (None,)})):
            self.assertFalse(array == other)
            self.assertTrue(array != other)

    def test_equality_tells_truth_values_from_integers(self):
        self.assertFalse(Array(LINE, {(1,): (1,)}) == Array(LINE, {(1,): (True,)}))
        self.assertFalse(Array(LINE, {(1,): (False,)}) == Array(LINE, {(1,): (0,)}))
        self.assertTrue(Array(LINE, {(1,): (True,)}) == Array(LINE, {(1,): (True,)}))

    def test_right_arrays(self):
        self.assert_right(LINE, {})
        self.assert_right(LINE, {(0,): (0,), (9,): (None,), (4,): (10 ** 30 - 1,)})
        self.assert_right(MIXED, {(0,): (1, True, "a"), (1,): (None, None, None), (2,): (-5, False, "x" * 200)})
        self.assert_right(PLANE, {(0, -1): (1,), (9, 1): (2,)})

    def test_wrong_numbers_of_coordinates(self):
        self.assert_wrong(0, LINE, {(): (1,)})
        self.assert_wrong(0, LINE, {(1, 1): (1,)})
        self.assert_wrong(0, PLANE, {(1,): (1,)})
        self.assert_wrong(1, PLANE, {(1, 1): (1,), (1, 1, 1): (1,)})

    def test_coordinates_out_of_bounds(self):
        for place in ((-1,), (10,), (10 ** 7,)):
            self.assert_wrong(0, LINE, {place: (1,)})
        for place in ((0, -2), (0, 2), (-1, 0), (10, 0)):
            self.assert_wrong(0, PLANE, {place: (1,)})

    def test_wrong_numbers_of_values(self):
        self.assert_wrong(0, LINE, {(1,): ()})
        self.assert_wrong(0, LINE, {(1,): (1, 1)})
        self.assert_wrong(0, MIXED, {(1,): (1, True)})
        self.assert_wrong(0, MIXED, {(1,): (None, None, None, None)})

    def test_values_of_another_kind(self):
        for value in (True, False, "a", 10 ** 30, -10 ** 30, [], (), (1,), [1]):
            self.assert_wrong(0, LINE, {(1,): (value,)})
        for values in ((1, 1, "a"), (1, 0, "a"), (1, "a", "a"), (1, True, 5), (1, True, "%"), (1, True, "x" * 201),
                       (1, True, True), (True, True, "a")):
            self.assert_wrong(0, MIXED, {(1,): values})

    def test_the_place_is_the_index_in_the_order_of_places(self):
        self.assert_wrong(2, LINE, {(7,): ("a",), (9,): (1,), (3,): (1,), (0,): (None,)})
        self.assert_wrong(2, LINE, {(5,): (1,), (11,): (1,), (3,): (1,)})

    def test_the_first_of_several_wrong_cells_counts(self):
        self.assert_wrong(1, LINE, {(9,): ("a",), (8,): (True,), (3,): (1,), (12,): (1,)})
        self.assert_wrong(0, LINE, {(9,): ("a",), (-4,): (1,), (3,): (1,)})
        self.assert_wrong(1, LINE, {(4,): (), (3, 1): (1,), (3,): (1,)})

    def test_nothing_is_changed(self):
        array = Array(MIXED, {(2,): (1, None, "a"), (1,): (None, True, None)})
        self.assert_unchanged(check_array, array)
        self.assert_unchanged(sorted_cells, array)
        cells = {(2,): (1,), (1,): (None,)}
        self.assert_unchanged(Array, LINE, cells)
