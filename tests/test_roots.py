"""Points 18.1 to 18.4: roots."""

import random
import zlib

from manysides.errors import Damaged, Truncated
from manysides.roots import Root, decode_root, encode_root, sum_of
from manysides.shapes import Shape
from tests.helpers import Case

LINE = Shape((("x", 0, 9, 5),), (("v", "int"),))
WIDE = Shape((("x", -1000000, 1000000, 1000000), ("y_1", -3, -2, 1)), (("v", "int"), ("f", "flag"), ("t", "text")))
TOP = 2 ** 32 - 1
ROOTS = [
    Root(1, 0, ()), Root(TOP, TOP, ()), Root(2, 0, ((1, ()),)), Root(TOP, 3, ((1, ()), (7, ()), (TOP - 1, ()))),
    Root(9, 1, ((4, (("a", LINE, ()),)),)),
    Root(9, 1, ((4, (("a", LINE, (((0,), 0, 1), ((1,), TOP, TOP))), ("b" * 30, WIDE, (((0, 1), 5, 6), ((2, 0), 7, 8))))),
                (6, (("Z", LINE, (((1,), 12, 0),)), ("_", WIDE, ()))))),
]


def four(number):
    return list(number.to_bytes(4, "big"))


def name(text):
    return [len(text)] + list(text.encode("latin-1"))


def dim(text="x", low=0, high=9, step=5):
    return name(text) + four(low + 2 ** 31) + four(high + 2 ** 31) + four(step)


def attr(text="v", kind=0):
    return name(text) + [kind]


def shape(dims=None, attrs=None):
    dims = [dim()] if dims is None else dims
    attrs = [attr()] if attrs is None else attrs
    return [len(dims)] + sum(dims, []) + [len(attrs)] + sum(attrs, [])


def chunks(*rows):
    return four(len(rows)) + [octet for row in rows for number in row for octet in four(number)]


def array(text="a", told=None, rows=None):
    return name(text) + (shape() if told is None else told) + (chunks() if rows is None else rows)


def version(number, *arrays):
    return four(number) + four(len(arrays)) + sum(arrays, [])


def body(*versions, upcoming=9, data=1):
    return [77, 83] + four(upcoming) + four(data) + four(len(versions)) + sum(versions, [])


def summed(octets):
    return octets + four(zlib.adler32(bytes(octets)))


class SumTest(Case):
    def test_sums(self):
        self.assert_same([sum_of([]), sum_of([1, 2]), sum_of([0]), sum_of([255])], [1, 393220, 65537, 256 * 65537])
        rolls = random.Random(15)
        for count in (1, 2, 300, 5552, 70000):
            for octets in ([255] * count, [0] * count, [rolls.randrange(256) for _ in range(count)]):
                self.assert_same(self.assert_unchanged(sum_of, octets), zlib.adler32(bytes(octets)))


class EncodeTest(Case):
    def test_example(self):
        self.assert_same([sum_of([]), sum_of([1, 2]), encode_root(Root(1, 0, ()))],
                         [1, 393220, [77, 83, 0, 0, 0, 1, 0, 0, 0, 0, 0, 0, 0, 0, 8, 132, 0, 162]])

    def test_octets(self):
        told = [2] + dim("x", -1000000, 1000000, 1000000) + dim("y_1", -3, -2, 1)
        told += [3] + attr("v", 0) + attr("f", 1) + attr("t", 2)
        wanted = body(version(4, array("a", shape(), chunks((0, 0, 1), (1, TOP, TOP))),
                              array("b" * 30, told, chunks((0, 1, 5, 6), (2, 0, 7, 8)))),
                      version(6, array("Z", shape(), chunks((1, 12, 0))), array("_", told)))
        self.assert_same(self.assert_unchanged(encode_root, ROOTS[-1]), summed(wanted))
        self.assert_same(encode_root(ROOTS[1]), summed(body(upcoming=TOP, data=TOP)))
        self.assert_same(four(-1000000 + 2 ** 31), [127, 240, 189, 192])

    def test_the_object(self):
        root = ROOTS[-1]
        self.assert_same((root.upcoming, root.data, root.versions[0][0]), (9, 1, 4))
        self.assertTrue(root == Root(9, 1, root.versions))
        for other in (Root(8, 1, root.versions), Root(9, 2, root.versions), Root(9, 1, ()), (9, 1, root.versions), None, 9):
            self.assertFalse(root == other)
            self.assertTrue(root != other)


class DecodeTest(Case):
    def assert_wrong(self, place, octets, whole=True):
        """The octets are damaged at a place, and also if they end there, but not if they end before what is wrong."""
        self.assert_error(Damaged, place, decode_root, summed(octets) if whole else octets)

    def test_what_was_encoded(self):
        for root in ROOTS:
            octets = encode_root(root)
            found = self.assert_unchanged(decode_root, octets)
            self.assertEqual(found, root)
            self.assertIsInstance(found.versions, tuple)
            self.assert_same(encode_root(found), octets)

    def test_octets_that_end_at_each_place(self):
        for root in ROOTS:
            octets = encode_root(root)
            for count in range(len(octets)):
                self.assert_error(Truncated, count, decode_root, octets[:count])

    def test_octets_behind_the_root(self):
        for root in ROOTS:
            octets = encode_root(root)
            for more in ([0], [77, 83], [0] * 9):
                self.assert_error(Damaged, len(octets), decode_root, octets + more)

    def test_each_changed_octet_of_the_sum_and_of_the_begin(self):
        octets = encode_root(ROOTS[-1])
        for place in (0, 1):
            for other in (0, 78, 255):
                self.assert_error(Damaged, place, decode_root, octets[:place] + [other] + octets[place + 1:])
                self.assert_error(Damaged, place, decode_root, octets[:place] + [other])
        self.assert_error(Damaged, 0, decode_root, [83, 77])
        for place in range(len(octets) - 4, len(octets)):
            changed = octets[:place] + [octets[place] ^ 1] + octets[place + 1:]
            self.assert_error(Damaged, len(octets) - 4, decode_root, changed)
            self.assert_error(Truncated, len(octets) - 1, decode_root, changed[:-1])

    def test_the_next_version(self):
        self.assert_wrong(2, body(upcoming=0))
        self.assert_error(Damaged, 2, decode_root, [77, 83, 0, 0, 0, 0])
        self.assert_error(Truncated, 5, decode_root, [77, 83, 0, 0, 0])

    def test_numbers_of_versions(self):
        for numbers, index in (((0,), 0), ((9,), 0), ((TOP,), 0), ((3, 3), 1), ((3, 2), 1), ((1, 2, 0), 2), ((1, 8, 9), 2), ((1, 5, 3), 2),
                               ((2, 6, 7, 7), 3)):
            octets = body(*[version(number) for number in numbers])
            self.assert_wrong(14 + 8 * index, octets)
            self.assert_wrong(14 + 8 * index, octets[:18 + 8 * index], False)
            self.assert_error(Truncated, 17 + 8 * index, decode_root, octets[:17 + 8 * index])
        self.assertEqual(decode_root(summed(body(version(1), version(8)))), Root(9, 1, ((1, ()), (8, ()))))
        self.assert_wrong(14, body(version(1), upcoming=1))

    def test_names_of_arrays(self):
        for text in ("", "9a", "a b", "a%", "x" * 31, "x" * 255, "a\xe9", "a\n", "\x00"):
            octets = body(version(3, array(text)))
            self.assert_wrong(22, octets)
            self.assert_wrong(22, octets[:23 + len(text)], False)
            if text:
                self.assert_error(Truncated, 22 + len(text), decode_root, octets[:22 + len(text)])
        first = len(body(version(3, array("b"))))
        for text in ("b", "a", "B", "_", "9", ""):
            octets = body(version(3, array("b"), array(text)))
            self.assert_wrong(first, octets)
            self.assert_wrong(first, octets[:first + 1 + len(text)], False)
        for text in ("ba", "c", "b_"):
            self.assertEqual(len(decode_root(summed(body(version(3, array("b"), array(text))))).versions[0][1]), 2)

    def test_names_ascend_from_each_one_to_the_next(self):
        octets = body(version(3, array("b"), array("f"), array("d")))
        self.assert_wrong(len(octets) - len(array("d")), octets)

    def test_names_start_again_in_each_version(self):
        root = decode_root(summed(body(version(3, array("b")), version(4, array("a")))))
        self.assertEqual([arrays[0][0] for number, arrays in root.versions], ["b", "a"])

    def test_shapes(self):
        seven = [dim(f"d{index}") for index in range(7)]
        seventeen = [attr(f"a{index}") for index in range(17)]
        for told in (shape([]), shape(None, []), shape(seven), shape(None, seventeen), shape([dim(), dim()]),
                     shape([dim("v")]), shape([dim(low=5, high=4)]), shape([dim(step=0)]), shape([dim(step=1000001)]),
                     shape([dim(low=-1000001)]), shape([dim(high=1000001)]), shape([dim(low=-2 ** 31)]),
                     shape([dim(high=2 ** 31 - 1)]), shape(None, [attr(), attr()])):
            octets = body(version(3, array("a", told, [])))
            self.assert_wrong(24, octets, False)
            self.assert_wrong(24, summed(octets), False)
            self.assert_error(Truncated, len(octets) - 1, decode_root, octets[:-1])
        six = shape(seven[:6], seventeen[:16])
        self.assertEqual(len(decode_root(summed(body(version(3, array("a", six))))).versions[0][1][0][1].attrs), 16)

    def test_names_and_kinds_in_shapes(self):
        for text in ("", "9a", "a b", "x" * 31, "a\xe9"):
            self.assert_wrong(25, body(version(3, array("a", shape([dim(text)])))))
            self.assert_wrong(25 + len(dim()), body(version(3, array("a", shape([dim(), dim(text)])))))
            self.assert_wrong(26 + len(dim()), body(version(3, array("a", shape(None, [attr(text)])))))
        for kind in (3, 4, 255):
            octets = body(version(3, array("a", shape(None, [attr(), attr("w", kind)]))))
            self.assert_wrong(26 + len(dim()) + 5, octets)
            self.assert_wrong(26 + len(dim()) + 5, octets[:32 + len(dim())], False)

    def test_a_kind_and_a_name_come_before_the_shape(self):
        bad = dim(low=5, high=4)
        self.assert_wrong(26 + len(bad) + 2, body(version(3, array("a", shape([bad], [attr("v", 3)])))))
        self.assert_wrong(26 + len(bad), body(version(3, array("a", shape([bad], [attr("1", 3)])))))
        self.assert_wrong(24, body(version(3, array("a", shape([bad]), chunks((7, 0, 0))))))

    def test_chunks(self):
        plane = shape([dim(), dim("y", -3, 4, 3)])
        first = 24 + len(plane) + 4
        for rows, index in ((((2, 0, 1, 1),), 0), (((0, 3, 1, 1),), 0), (((TOP, TOP, 1, 1),), 0), (((1, 2, 1, 1), (1, 2, 1, 1)), 1),
                            (((1, 0, 1, 1), (0, 2, 1, 1)), 1), (((0, 1, 1, 1), (0, 0, 1, 1)), 1), (((0, 1, 0, 0), (0, 3, 0, 0)), 1),
                            (((0, 0, 1, 1), (1, 1, 1, 1), (0, 2, 1, 1)), 2), (((0, 0, 1, 1), (0, 2, 1, 1), (0, 1, 1, 1)), 2)):
            octets = body(version(3, array("a", plane, chunks(*rows))))
            self.assert_wrong(first + 16 * index, octets)
            self.assert_wrong(first + 16 * index, octets[:first + 16 * index + 8], False)
            self.assert_error(Truncated, first + 16 * index + 7, decode_root, octets[:first + 16 * index + 7])
        rows = ((0, 2, 0, 0), (1, 0, TOP, 0), (1, 2, 0, TOP))
        found = decode_root(summed(body(version(3, array("a", plane, chunks(*rows))))))
        self.assert_same(found.versions[0][1][0][2], (((0, 2), 0, 0), ((1, 0), TOP, 0), ((1, 2), 0, TOP)))

    def test_large_counts(self):
        self.assert_error(Truncated, 14, decode_root, [77, 83] + four(9) + four(1) + four(TOP))
        self.assert_error(Truncated, 22, decode_root, body(four(3) + four(TOP)))
        octets = body(version(3, array("a", shape(), four(TOP))))
        self.assert_error(Truncated, len(octets), decode_root, octets)

    def test_the_first_of_two_errors(self):
        self.assert_error(Damaged, 0, decode_root, [0, 0])
        self.assert_error(Damaged, 2, decode_root, [77, 83] + four(0) + four(1) + four(1) + four(0))
        self.assert_wrong(14, body(version(0, array("")), version(0)))
        self.assert_error(Damaged, len(body()), decode_root, body() + [0, 0, 0, 0, 9])
        octets = encode_root(ROOTS[0])
        self.assert_error(Damaged, 14, decode_root, octets[:14] + [octets[14] + 1] + octets[15:] + [1])
