"""Point 07.6: reading all forms, and the errors."""

import random

from manysides.arrays import Array, check_array
from manysides.chunks import box_of_chunk
from manysides.coding import decode_chunk, encode_chunk
from manysides.errors import Damaged, Truncated
from manysides.shapes import Shape
from tests import forms
from tests.helpers import Case, EDGE, LINE
from tests.samples import LONG, chunks_of_cells

TEXTS = Shape((("x", 0, 9, 5),), (("t", "text"),))
FLAGS = Shape((("x", 0, 9, 5),), (("f", "flag"),))
WIDE = Shape((("x", 0, 999999, 10 ** 6),), (("v", "int"),))
# Two cells at the positions 0 and 1, no value missing: the form of the column is the octet 5.
TWO = [2, 2, 0, 1, 0]
# Three cells at the positions 0, 1 and 2, no value missing: the form of the column is the octet 6.
THREE = [3, 2, 0, 1, 1, 0]


class DecodingTest(Case):
    def truncated(self, octets, shape=LINE):
        self.assert_error(Truncated, len(octets), decode_chunk, shape, (0,), octets)

    def damaged(self, place, octets, shape=LINE):
        self.assert_error(Damaged, place, decode_chunk, shape, (0,), octets)

    def read(self, values, octets, shape=LINE):
        wanted = {(at,): (value,) for at, value in enumerate(values)}
        self.assert_same(self.assert_unchanged(decode_chunk, shape, (0,), octets), wanted)

    def test_example(self):
        self.damaged(2, [1, 2, 5])

    def test_the_number_of_cells(self):
        self.damaged(0, [0])
        self.damaged(0, [0, 0, 0, 0, 0])
        self.damaged(0, [6])
        self.damaged(0, [6, 9, 9])
        self.read([1] * 5, [5, 0, 0, 1, 1, 2, 5])
        self.damaged(0, forms.number(10 ** 5 + 1), WIDE)
        self.truncated(forms.number(10 ** 5), WIDE)
        self.damaged(3, forms.number(10 ** 5) + [0], WIDE)

    def test_a_number_of_cells_of_one_hundred_thousand(self):
        octets = forms.number(10 ** 5) + [2, 0] + [1] * 99999 + [0, 1, 1, 4] + forms.number(10 ** 5)
        cells = decode_chunk(WIDE, (0,), octets)
        self.assertEqual(cells, {(x,): (2,) for x in range(10 ** 5)})

    def test_numbers_that_are_too_long(self):
        self.truncated([])
        self.truncated([128])
        self.truncated([128] * 17)
        self.damaged(0, [128] * 18)
        self.damaged(0, [255] * 18)
        self.damaged(0, [128] * 19)
        self.damaged(0, [128, 0])
        self.damaged(0, [129, 0])
        self.damaged(0, [129, 128, 0])
        self.damaged(0, [129] + [128] * 16 + [0])
        self.damaged(0, [255] * 17 + [127])
        self.damaged(2, [1, 2, 128, 0])
        self.damaged(2, [1, 2] + [128] * 18)
        self.truncated([1, 2] + [128] * 17)
        self.damaged(6, TWO + [0] + [255] * 17 + [127])
        self.damaged(7, TWO + [0, 2, 130, 0])

    def test_the_form_of_the_presence(self):
        self.truncated([1])
        self.damaged(1, [1, 3])
        self.damaged(1, [1, 255, 1])
        self.damaged(1, [1, 0])
        self.damaged(1, [4, 0, 0, 0])
        self.truncated([5, 0])
        self.damaged(1, [5, 3])
        self.read([None] * 5, [5, 0, 2])
        self.read([None] * 5, [5, 1, 248, 2])
        self.read([None] * 5, [5, 2, 0, 1, 1, 1, 1, 2])

    def test_bits_of_the_presence(self):
        self.truncated([1, 1])
        self.damaged(2, [1, 1, 0])
        self.damaged(2, [1, 1, 192])
        self.damaged(2, [3, 1, 192])
        for filling in (1, 2, 4, 7):
            self.damaged(2, [1, 1, 128 + filling])
            self.damaged(2, [1, 1, filling])
        self.read([None], [1, 1, 128, 2])
        thirteen = Shape((("x", 0, 12, 13),), (("v", "int"),))
        self.truncated([1, 1, 255], thirteen)
        self.damaged(2, [1, 1, 255, 0], thirteen)
        self.damaged(2, [1, 1, 128, 1], thirteen)
        self.damaged(2, [1, 1, 128, 8], thirteen)
        self.assert_same(decode_chunk(thirteen, (0,), [1, 1, 0, 8, 2]), {(12,): (None,)})
        sixteen = Shape((("x", 0, 15, 16),), (("v", "int"),))
        self.assert_same(decode_chunk(sixteen, (0,), [1, 1, 0, 1, 2]), {(15,): (None,)})

    def test_bits_of_a_vast_box_are_missing(self):
        vast = Shape(tuple([(name, 0, 10 ** 6, 10 ** 6) for name in "abcdef"]), (("v", "int"),))
        octets = [1, 1] + [0] * 50
        self.assert_error(Truncated, 52, decode_chunk, vast, (0,) * 6, octets)

    def test_positions(self):
        self.truncated([1, 2])
        self.damaged(2, [1, 2, 5])
        self.damaged(2, [1, 2, 127])
        self.assert_same(decode_chunk(LINE, (1,), [1, 2, 4, 2]), {(9,): (None,)})
        self.truncated([2, 2, 0])
        self.damaged(3, [2, 2, 0, 0])
        self.damaged(3, [2, 2, 0, 5])
        self.damaged(3, [2, 2, 4, 1])
        self.damaged(3, [2, 2, 4, 0])
        self.damaged(4, [3, 2, 0, 4, 1])
        self.damaged(2, [2, 2, 5, 0])
        self.assert_same(decode_chunk(LINE, (0,), [2, 2, 0, 4, 2]), {(0,): (None,), (4,): (None,)})

    def test_the_form_of_the_missing_values(self):
        self.truncated([1, 2, 0])
        self.damaged(3, [1, 2, 0, 3])
        self.damaged(3, [1, 2, 0, 128])
        self.damaged(4, [2, 2, 0, 1, 4, 0])

    def test_bits_of_the_missing_values(self):
        self.truncated([2, 2, 0, 1, 1])
        self.damaged(4, [1, 2, 0, 1, 0])
        self.damaged(4, [1, 2, 0, 1, 128])
        self.damaged(5, [2, 2, 0, 1, 1, 0])
        self.damaged(5, [2, 2, 0, 1, 1, 192])
        self.damaged(5, [2, 2, 0, 1, 1, 160])
        self.damaged(5, [2, 2, 0, 1, 1, 129])
        self.read([None, 4], [2, 2, 0, 1, 1, 128, 0, 8])
        self.read([4, None], [2, 2, 0, 1, 1, 64, 1, 1, 8, 1])

    def test_no_column_behind_all_missing(self):
        self.read([None, None], [2, 2, 0, 1, 2])
        self.damaged(5, [2, 2, 0, 1, 2, 0])

    def test_the_form_of_the_column(self):
        self.truncated(TWO)
        self.damaged(5, TWO + [4])
        self.damaged(5, TWO + [255])
        self.damaged(5, TWO + [2], FLAGS)
        self.damaged(5, TWO + [3], FLAGS)
        self.damaged(5, TWO + [4], FLAGS)
        self.damaged(5, TWO + [2], TEXTS)
        self.damaged(5, TWO + [4], TEXTS)

    def test_integers_by_themselves(self):
        self.truncated(TWO + [0])
        self.truncated(TWO + [0, 14])
        self.truncated(TWO + [0, 14, 200])
        self.read([7, -8], TWO + [0, 14, 15])
        self.read([EDGE, -EDGE], TWO + [0] + forms.signed(EDGE) + forms.signed(-EDGE))
        self.damaged(6, TWO + [0] + forms.signed(EDGE + 1))
        self.damaged(6, TWO + [0] + forms.signed(-EDGE - 1))
        self.damaged(7, TWO + [0, 0] + forms.signed(EDGE + 1) + [0])
        self.truncated(TWO + [0] + forms.signed(EDGE + 1)[:-1])

    def test_runs(self):
        self.truncated(TWO + [1])
        self.damaged(6, TWO + [1, 0])
        self.damaged(6, TWO + [1, 3])
        self.damaged(6, TWO + [1, 0, 0, 0, 0])
        self.truncated(TWO + [1, 1])
        self.truncated(TWO + [1, 1, 10])
        self.read([5, 5], TWO + [1, 1, 10, 2])
        self.read([5, 6], TWO + [1, 2, 10, 1, 12, 1])
        self.read([5, 5], TWO + [1, 2, 10, 1, 10, 1])
        self.damaged(8, TWO + [1, 1, 10, 0])
        self.damaged(8, TWO + [1, 1, 10, 3])
        self.damaged(6, TWO + [1, 1, 10, 1])
        self.damaged(6, TWO + [1, 1, 10, 1, 0, 0])
        self.truncated(TWO + [1, 2, 10, 1])
        self.truncated(TWO + [1, 2, 10, 2])
        self.truncated(TWO + [1, 2, 10, 2, 12])
        self.damaged(10, TWO + [1, 2, 10, 2, 12, 1])
        self.damaged(10, TWO + [1, 2, 10, 2, 12, 0])
        self.damaged(8, TWO + [1, 2, 10, 3])
        self.damaged(7, THREE + [1, 2, 10, 1, 12, 1])
        self.damaged(7, TWO + [1, 2] + forms.signed(EDGE + 1))
        self.damaged(9, TWO + [1, 2, 10, 1] + forms.signed(-EDGE - 1) + [9])

    def test_steps(self):
        self.truncated(TWO + [2])
        self.truncated(TWO + [2, 10])
        self.read([5, 4], TWO + [2, 10, 1])
        self.read([EDGE, -EDGE], TWO + [2] + forms.signed(EDGE) + forms.signed(-2 * EDGE))
        self.damaged(6, TWO + [2] + forms.signed(EDGE + 1) + [1])
        self.damaged(6, TWO + [2] + forms.signed(-EDGE - 1) + [2])
        edge = forms.signed(EDGE)
        self.damaged(6 + len(edge), TWO + [2] + edge + [2])
        self.damaged(6 + len(edge), TWO + [2] + forms.signed(-EDGE) + [1])
        self.damaged(6 + len(edge), TWO + [2] + edge + [2, 1])

    def test_indexes(self):
        self.truncated(TWO + [3])
        self.damaged(6, TWO + [3, 0])
        self.damaged(6, TWO + [3, 3])
        self.truncated(TWO + [3, 1])
        self.read([5, 5], TWO + [3, 1, 10, 0, 0])
        self.read([5, 6], TWO + [3, 2, 10, 12, 0, 1])
        self.read([6, 5], TWO + [3, 2, 10, 12, 1, 0])
        self.read([6, 6], TWO + [3, 2, 10, 12, 1, 1])
        self.damaged(8, TWO + [3, 2, 10, 10])
        self.damaged(8, TWO + [3, 2, 10, 10, 0, 9])
        self.damaged(8, TWO + [3, 1, 10, 1])
        self.damaged(9, TWO + [3, 1, 10, 0, 1])
        self.damaged(9, TWO + [3, 2, 10, 12, 2])
        self.damaged(10, TWO + [3, 2, 10, 12, 0, 127])
        self.truncated(TWO + [3, 2, 10, 12])
        self.truncated(TWO + [3, 2, 10, 12, 0])
        self.damaged(7, TWO + [3, 2] + forms.signed(EDGE + 1))

    def test_flags(self):
        self.truncated(TWO + [0], FLAGS)
        self.read([True, False], TWO + [0, 128], FLAGS)
        self.read([False, False], TWO + [0, 0], FLAGS)
        self.damaged(6, TWO + [0, 160], FLAGS)
        self.damaged(6, TWO + [0, 1], FLAGS)
        self.read([True, True], TWO + [1, 1, 1, 2], FLAGS)
        self.read([False, False], TWO + [1, 1, 0, 2], FLAGS)
        self.read([False, True], TWO + [1, 2, 0, 1, 1, 1], FLAGS)
        self.damaged(7, TWO + [1, 1, 2], FLAGS)
        self.damaged(7, TWO + [1, 1, 128], FLAGS)
        self.damaged(9, TWO + [1, 2, 0, 1, 255, 1], FLAGS)
        self.damaged(8, TWO + [1, 1, 1, 3], FLAGS)
        self.truncated(TWO + [1, 1, 1], FLAGS)

    def test_texts(self):
        self.truncated(TWO + [0], TEXTS)
        self.read(["a", ""], TWO + [0, 1, 97, 0], TEXTS)
        self.read(["x" * 200, "\n"], TWO + [0, 200, 1] + [120] * 200 + [1, 10], TEXTS)
        self.damaged(6, TWO + [0, 201, 1], TEXTS)
        self.damaged(6, TWO + [0, 201, 1] + [120] * 300, TEXTS)
        self.damaged(8, TWO + [0, 1, 97, 201, 1], TEXTS)
        self.truncated(TWO + [0, 200, 1] + [120] * 199, TEXTS)
        for wrong in (0, 9, 11, 31, 37, 127, 128, 255):
            self.damaged(6, TWO + [0, 3, 97, wrong, 97], TEXTS)
            self.truncated(TWO + [0, 3, 97, wrong], TEXTS)
            self.damaged(8, TWO + [0, 1, 97, 1, wrong], TEXTS)
        self.damaged(6, TWO + [0, 130, 1] + [120] * 129 + [37], TEXTS)
        self.read(["a", "a"], TWO + [1, 1, 1, 97, 2], TEXTS)
        self.damaged(7, TWO + [1, 1, 1, 37, 2], TEXTS)
        self.damaged(7, TWO + [1, 1, 201, 1], TEXTS)
        self.read(["b", "a"], TWO + [3, 2, 1, 97, 1, 98, 1, 0], TEXTS)
        self.damaged(9, TWO + [3, 2, 1, 97, 1, 97, 1, 0], TEXTS)
        self.damaged(9, TWO + [3, 2, 1, 97, 1, 37, 1, 0], TEXTS)
        self.truncated(TWO + [3, 2, 1, 97, 1], TEXTS)

    def test_octets_behind_the_chunk(self):
        self.damaged(6, [1, 2, 0, 0, 0, 10, 0])
        self.damaged(6, [1, 2, 0, 0, 0, 10, 255, 255, 255])
        self.damaged(4, [1, 2, 0, 2, 0])

    def test_the_first_error_in_the_order_of_the_octets_counts(self):
        self.damaged(1, [3, 7])
        self.damaged(3, [2, 2, 0, 9, 9, 9])
        self.damaged(5, TWO + [9, 9])
        self.damaged(7, TWO + [0, 10] + forms.signed(EDGE + 1) + [9, 9, 9])

    def test_all_forms_are_read(self):
        for chunk, cells in chunks_of_cells(120):
            for octets in forms.every(LONG, box_of_chunk(LONG, chunk), cells):
                self.assert_same(decode_chunk(LONG, chunk, octets), cells)

    def test_octets_that_end_early_or_late(self):
        for chunk, cells in chunks_of_cells(25):
            octets = encode_chunk(LONG, chunk, cells)
            for count in range(len(octets)):
                self.assert_error(Truncated, count, decode_chunk, LONG, chunk, octets[:count])
            self.assert_error(Damaged, len(octets), decode_chunk, LONG, chunk, octets + [0])

    def test_changed_octets_raise_no_other_errors(self):
        rolls = random.Random(11)
        for chunk, cells in chunks_of_cells(200):
            octets = encode_chunk(LONG, chunk, cells)
            octets[rolls.randrange(len(octets))] = rolls.choice([0, 1, 2, 3, 37, 127, 128, 200, 255])
            try:
                found = decode_chunk(LONG, chunk, octets)
            except (Truncated, Damaged) as error:
                self.assertTrue(0 <= error.place <= len(octets))
            else:
                self.assertIsNone(check_array(Array(LONG, found)))
