"""Points 07.1 to 07.5 and 07.7: writing chunks, and reading what was written."""

from manysides.chunks import box_of_chunk
from manysides.coding import decode_chunk, encode_chunk, write_number, write_signed
from manysides.shapes import Shape
from tests import forms
from tests.helpers import Case, EDGE, LINE
from tests.samples import LONG, chunks_of_cells

LARGEST = 2 ** 126 - 1
TEXTS = Shape((("x", 0, 9, 5),), (("t", "text"),))
FLAGS = Shape((("x", 0, 99, 50),), (("f", "flag"),))
INTS = Shape((("x", 0, 99, 50),), (("v", "int"),))


class NumbersTest(Case):
    def test_numbers(self):
        for n, octets in ((0, [0]), (1, [1]), (127, [127]), (128, [128, 1]), (129, [129, 1]), (255, [255, 1]),
                          (256, [128, 2]), (16383, [255, 127]), (16384, [128, 128, 1]), (300, [172, 2])):
            self.assert_same(write_number(n), octets)
        self.assert_same(write_number(LARGEST), [255] * 17 + [127])
        self.assert_same(write_number(2 ** 119), [128] * 17 + [1])
        self.assert_same(write_number(2 ** 119 - 1), [255] * 16 + [127])

    def test_signed_numbers(self):
        for n, octets in ((0, [0]), (-1, [1]), (1, [2]), (-2, [3]), (63, [126]), (-64, [127]), (64, [128, 1]),
                          (-65, [129, 1]), (127, [254, 1]), (-127, [253, 1]), (128, [128, 2]), (-128, [255, 1]),
                          (-129, [129, 2])):
            self.assert_same(write_signed(n), octets)
        self.assert_same(write_signed(2 ** 125 - 1), [254] + [255] * 16 + [127])
        self.assert_same(write_signed(-2 ** 125), [255] * 17 + [127])

    def test_numbers_as_a_second_writer_writes_them(self):
        for n in list(range(700)) + [128 ** k + d for k in range(1, 18) for d in (-1, 0, 1)] + [10 ** 30, LARGEST]:
            self.assert_same(write_number(n), forms.number(n))
        for n in list(range(-300, 300)) + [EDGE, -EDGE, 2 * EDGE, -2 * EDGE]:
            self.assert_same(write_signed(n), forms.signed(n))


class EncodingTest(Case):
    def assert_octets(self, shape, values, octets, chunk=(0,)):
        """The values stand at the first places of the chunk; places are left out where there is no tuple."""
        low = box_of_chunk(shape, chunk)[0][0]
        cells = {(low + at,): value for at, value in enumerate(values) if value is not None}
        self.assert_same(self.assert_unchanged(encode_chunk, shape, chunk, cells), octets)
        self.assert_same(self.assert_unchanged(decode_chunk, shape, chunk, octets), cells)

    def test_examples(self):
        s = Shape((("x", 0, 9, 5),), (("v", "int"), ("w", "flag")))
        cells = {(5,): (7, True), (6,): (8, None), (9,): (9, None)}
        self.assert_same(encode_chunk(s, (1,), cells), [3, 1, 200, 0, 0, 14, 16, 18, 1, 96, 0, 128])
        self.assert_same(decode_chunk(s, (0,), [1, 2, 3, 0, 0, 1, 2]), {(3,): (-1, None)})

    def test_presence(self):
        one, no = (0,), None
        self.assert_octets(LINE, [one] * 5, [5, 0, 0, 1, 1, 0, 5])
        self.assert_octets(LINE, [no, no, no, one], [1, 1, 16, 0, 0, 0])
        self.assert_octets(LINE, [one, no, no, no, one], [2, 1, 136, 0, 0, 0, 0])
        self.assert_octets(LINE, [no, one], [1, 1, 64, 0, 0, 0], (1,))
        self.assert_octets(INTS, [no] * 49 + [one], [1, 2, 49, 0, 0, 0])
        self.assert_octets(INTS, [one, no, one] + [no] * 3 + [one], [3, 2, 0, 2, 4, 0, 0, 0, 0, 0])

    def test_presence_ties(self):
        eight = Shape((("x", 0, 7, 8),), (("v", "int"),))
        nine = Shape((("x", 0, 8, 9),), (("v", "int"),))
        seventeen = Shape((("x", 0, 16, 17),), (("v", "int"),))
        self.assert_octets(eight, [None, (0,)], [1, 1, 64, 0, 0, 0])
        self.assert_octets(nine, [None, (0,)], [1, 2, 1, 0, 0, 0])
        self.assert_octets(nine, [(0,), (0,)], [2, 1, 192, 0, 0, 0, 0, 0])
        self.assert_octets(seventeen, [(0,), (0,)], [2, 2, 0, 1, 0, 0, 0, 0])
        self.assert_octets(seventeen, [(0,), (0,), (0,)], [3, 1, 224, 0, 0, 0, 0, 0, 0, 0])
        single = Shape((("x", 4, 4, 9),), (("v", "int"),))
        self.assert_octets(single, [(0,)], [1, 0, 0, 0, 0])

    def test_presence_in_vast_boxes(self):
        vast = Shape(tuple([(name, -10 ** 6, 10 ** 6, 10 ** 6) for name in "abcdef"]), (("v", "int"),))
        last = (-1,) * 6
        cells = {(-10 ** 6,) * 6: (5,), last: (5,)}
        octets = [2, 2, 0] + forms.number(10 ** 36 - 1) + [0, 0, 10, 10]
        self.assert_same(encode_chunk(vast, (0,) * 6, cells), octets)
        self.assert_same(decode_chunk(vast, (0,) * 6, octets), cells)

    def test_positions_of_two_octets(self):
        wide = Shape((("x", 0, 9999, 10000),), (("v", "int"),))
        cells = {(127,): (1,), (255,): (1,), (5000,): (1,)}
        octets = [3, 2, 127, 128, 1] + forms.number(4745) + [0, 0, 2, 2, 2]
        self.assert_same(encode_chunk(wide, (0,), cells), octets)
        self.assert_same(decode_chunk(wide, (0,), octets), cells)

    def test_missing_values(self):
        self.assert_octets(LINE, [(None,)] * 5, [5, 0, 2])
        self.assert_octets(LINE, [(None,), (4,), (None,), (3,), (None,)], [5, 0, 1, 168, 0, 8, 6])
        self.assert_octets(LINE, [(None,), (4,)], [2, 1, 192, 1, 128, 0, 8])
        self.assert_octets(FLAGS, [(None,)] * 49 + [(False,)],
                           [50, 0, 1, 255, 255, 255, 255, 255, 255, 128, 0, 0])

    def test_integers(self):
        full = [5, 0, 0]
        self.assert_octets(LINE, [(n,) for n in (0, -1, 1, 63, -64)], full + [0, 0, 1, 2, 126, 127])
        self.assert_octets(LINE, [(n,) for n in (7, 7, 7, 7, 7)], full + [1, 1, 14, 5])
        self.assert_octets(LINE, [(n,) for n in (7, 7, 7, 8, 8)], full + [0, 14, 14, 14, 16, 16])
        self.assert_octets(LINE, [(n,) for n in (70, 70, 70, 70, 1)], full + [1, 2, 140, 1, 4, 2, 1])
        self.assert_octets(LINE, [(n,) for n in (1000, 1001, 1002, 1003, 1000)], full + [2, 208, 15, 2, 2, 2, 5])
        self.assert_octets(LINE, [(n,) for n in (10 ** 9, 0, 10 ** 9, 0, 10 ** 9)],
                           full + [3, 2] + forms.signed(10 ** 9) + [0, 0, 1, 0, 1, 0])

    def test_ties_of_integers(self):
        self.assert_octets(LINE, [None, (5,)], [1, 1, 64, 0, 0, 10])
        self.assert_octets(LINE, [(8192,), (8192,)], [2, 1, 192, 0, 2, 128, 128, 1, 0])
        self.assert_octets(LINE, [(100,), (100,)], [2, 1, 192, 0, 2, 200, 1, 0])
        self.assert_octets(LINE, [(100,), (100,), (100,)], [3, 1, 224, 0, 1, 1, 200, 1, 3])
        self.assert_octets(LINE, [(0,)] * 3 + [None], [3, 1, 224, 0, 0, 0, 0, 0])
        self.assert_octets(LINE, [(0,)] * 4, [4, 1, 240, 0, 1, 1, 0, 4])

    def test_the_largest_steps(self):
        self.assert_octets(LINE, [(EDGE,), (-EDGE,), (EDGE,), (-EDGE,), (EDGE,)],
                           [5, 0, 0, 3, 2] + forms.signed(EDGE) + forms.signed(-EDGE) + [0, 1, 0, 1, 0])
        self.assert_octets(LINE, [(EDGE,)] * 2, [2, 1, 192, 0, 2] + forms.signed(EDGE) + [0])

    def test_flags(self):
        yes, no = (True,), (False,)
        self.assert_octets(FLAGS, [yes, no, yes], [3, 2, 0, 1, 1, 0, 0, 160])
        self.assert_octets(FLAGS, [yes] * 50, [50, 0, 0, 1, 1, 1, 50])
        self.assert_octets(FLAGS, [no] * 25 + [yes] * 25, [50, 0, 0, 1, 2, 0, 25, 1, 25])
        self.assert_octets(FLAGS, [no] * 24, [24, 1, 255, 255, 255] + [0] * 4 + [0, 0, 0, 0, 0])
        self.assert_octets(FLAGS, [yes] * 24, [24, 1, 255, 255, 255] + [0] * 4 + [0, 0, 255, 255, 255])
        self.assert_octets(FLAGS, [yes] * 25, [25, 1, 255, 255, 255, 128] + [0] * 3 + [0, 1, 1, 1, 25])
        self.assert_octets(FLAGS, [no, yes] * 25, [50, 0, 0, 0] + [85] * 6 + [64])

    def test_texts(self):
        a, b = [1, 97], [2, 98, 10]
        self.assert_octets(TEXTS, [("a",), ("b\n",)], [2, 1, 192, 0, 0] + a + b)
        self.assert_octets(TEXTS, [("",)] * 5, [5, 0, 0, 1, 1, 0, 5])
        self.assert_octets(TEXTS, [("b\n",)] * 5, [5, 0, 0, 1, 1] + b + [5])
        self.assert_octets(TEXTS, [("b\n",), ("a",)] * 2 + [("b\n",)], [5, 0, 0, 3, 2] + b + a + [0, 1, 0, 1, 0])
        self.assert_octets(TEXTS, [("a",), ("a",)], [2, 1, 192, 0, 0] + a + a)
        self.assert_octets(TEXTS, [("x" * 200,), ("x" * 127,)],
                           [2, 1, 192, 0, 0, 200, 1] + [120] * 200 + [127] + [120] * 127)

    def test_the_order_of_the_dict_does_not_count(self):
        cells = {(4,): (3,), (0,): (1,), (2,): (2,)}
        self.assert_same(encode_chunk(LINE, (0,), cells), [3, 1, 168, 0, 0, 2, 4, 6])

    def test_many_chunks(self):
        for chunk, cells in chunks_of_cells(300):
            octets = encode_chunk(LONG, chunk, cells)
            self.assert_same(octets, forms.shortest(LONG, box_of_chunk(LONG, chunk), cells))
            self.assertTrue(all([0 <= octet <= 255 for octet in octets]))
            self.assert_same(decode_chunk(LONG, chunk, octets), cells)

    def test_what_is_returned_is_new(self):
        cells = {(0,): (1,)}
        encode_chunk(LINE, (0,), cells).clear()
        octets = encode_chunk(LINE, (0,), cells)
        decode_chunk(LINE, (0,), octets).clear()
        self.assert_same(decode_chunk(LINE, (0,), octets), cells)
