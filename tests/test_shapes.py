"""Points 03.1 to 03.3."""

from manysides.errors import InvalidShape
from manysides.shapes import Shape, attr_index, check_shape, dim_index, is_simple_name
from tests.helpers import Case, LINE

V = (("v", "int"),)
X = (("x", 0, 9, 4),)


def dims(count):
    return tuple([(f"d{index}", 0, 9, 4) for index in range(count)])


def attrs(count):
    return tuple([(f"a{index}", "int") for index in range(count)])


class NamesTest(Case):
    def test_simple_names(self):
        for name in ("a", "Z", "_", "a1", "_9", "A_b_1", "x" * 30, "__", "azAZ09_"):
            self.assert_same(is_simple_name(name), True)

    def test_other_strings(self):
        for name in ("", "1", "9a", "0_", "x" * 31, "x" * 300, "a b", " a", "a ", "a-b", "a.b", "a\n", "\na", "a%",
                     "\xe9", "a\xe9", "\u0660", "a\u0660", "@", "[", "`", "{", "/", ":", "a'"):
            self.assert_same(is_simple_name(name), False)


class ShapesTest(Case):
    def assert_right(self, dims, attrs):
        self.assertIsNone(check_shape(Shape(dims, attrs)))

    def assert_wrong(self, place, dims, attrs):
        self.assert_error(InvalidShape, place, check_shape, Shape(dims, attrs))

    def test_examples(self):
        s = Shape((("x", 0, 9, 4), ("y", -1, 1, 3)), (("v", "int"), ("w", "text")))
        self.assert_same([dim_index(s, "y"), dim_index(s, "v"), s == Shape(s.dims, s.attrs)], [1, None, True])
        self.assert_wrong(1, (("x", 0, 9, 4), ("y", 2, 1, 3)), (("v", "int"),))

    def test_attributes_of_the_object(self):
        s = Shape(X, V)
        self.assert_same((s.dims, s.attrs), (X, V))

    def test_equality(self):
        self.assertTrue(Shape(X, V) == Shape(tuple(list(X)), tuple(list(V))))
        for other in (Shape(X, (("w", "int"),)), Shape((("x", 0, 9, 3),), V), Shape(V, X), Shape(X + dims(1), V)):
            self.assertFalse(Shape(X, V) == other)
            self.assertTrue(Shape(X, V) != other)

    def test_numbers_of_dimensions(self):
        for count in range(1, 7):
            self.assert_right(dims(count), V)
        for count in (0, 7, 8):
            self.assert_wrong(0, dims(count), V)

    def test_numbers_of_attributes(self):
        for count in range(1, 17):
            self.assert_right(X, attrs(count))
        for count in (0, 17, 18):
            self.assert_wrong(0, X, attrs(count))

    def test_bounds_of_a_dimension(self):
        for low, high in ((0, 0), (-10 ** 6, 10 ** 6), (10 ** 6, 10 ** 6), (-10 ** 6, -10 ** 6), (-3, -2)):
            self.assert_right((("x", low, high, 1),), V)
        for low, high in ((1, 0), (-10 ** 6 - 1, 0), (0, 10 ** 6 + 1), (10 ** 6, -10 ** 6),
                          (-10 ** 6 - 1, -10 ** 6 - 1), (10 ** 6 + 1, 10 ** 6 + 1)):
            self.assert_wrong(1, X + (("y", low, high, 1),), V)

    def test_steps(self):
        for step in (1, 2, 10 ** 6):
            self.assert_right((("x", 0, 9, step),), V)
        for step in (0, -1, 10 ** 6 + 1):
            self.assert_wrong(1, X + (("y", 0, 9, step),), V)

    def test_names(self):
        for name in ("a", "_", "x" * 30):
            self.assert_right(((name, 0, 9, 4),), V)
            self.assert_right((("d", 0, 9, 4),), ((name, "int"),))
        for name in ("", "1a", "x" * 31, "a b", "%"):
            self.assert_wrong(0, ((name, 0, 9, 4),), V)
            self.assert_wrong(1, X, ((name, "int"),))

    def test_kinds(self):
        for kind in ("int", "flag", "text"):
            self.assert_right(X, (("v", kind),))
        for kind in ("", "Int", "integer", "bool", "int "):
            self.assert_wrong(2, X, (("v", "int"), ("w", kind)))

    def test_names_that_occurred_before(self):
        self.assert_wrong(2, (("x", 0, 9, 4), ("y", 0, 9, 4), ("x", 0, 1, 1), ("y", 0, 9, 4)), V)
        self.assert_wrong(3, X, (("v", "int"), ("w", "int"), ("v", "text")))
        self.assert_wrong(2, X, (("v", "int"), ("x", "int")))
        self.assert_wrong(1, X, (("x", "int"),))

    def test_names_differ_by_case(self):
        self.assert_right((("x", 0, 9, 4), ("X", 0, 9, 4)), (("v", "int"), ("V", "int")))

    def test_the_first_of_several_wrong_things_counts(self):
        bad = ("1", 5, 4, 0)
        self.assert_wrong(0, dims(6) + (bad,), (("v", "none"),))
        self.assert_wrong(0, (("x", 0, 9, 4), bad), ())
        self.assert_wrong(1, (("x", 0, 9, 4), bad, ("x", 0, 9, 4)), (("v", "none"),))
        self.assert_wrong(1, (("x", 0, 9, 4), ("x", 0, 9, 4), bad), (("v", "none"),))
        self.assert_wrong(3, dims(2), (("v", "int"), ("d0", "int"), ("w", "none")))
        self.assert_wrong(2, dims(2), (("v", "none"), ("d0", "int")))

    def test_indexes(self):
        s = Shape((("x", 0, 9, 4), ("y", -1, 1, 3)), (("v", "int"), ("w", "text"), ("u", "flag")))
        self.assert_same([dim_index(s, name) for name in ("x", "y", "v", "w", "z", "")], [0, 1, None, None, None, None])
        self.assert_same([attr_index(s, name) for name in ("v", "w", "u", "x", "z", "")], [0, 1, 2, None, None, None])

    def test_nothing_is_changed(self):
        self.assert_unchanged(check_shape, LINE)
        self.assert_unchanged(dim_index, LINE, "x")
