"""Points 06.1 to 06.3."""

import itertools

from manysides.arrays import Array
from manysides.chunks import box_of_chunk, box_size, chunk_of, join_chunks, place_at, position_of, split
from manysides.shapes import Shape
from tests.helpers import Case, LINE, PLANE

CUBE = Shape((("a", -2, 3, 4), ("b", 5, 5, 7), ("c", -1, 3, 2)), (("v", "int"), ("w", "text")))


def places_in(box):
    """Returns the list of the places of a box, in order."""
    return list(itertools.product(*[range(least, greatest + 1) for least, greatest in box]))


def all_places(shape):
    """Returns the list of the places of a shape, in order."""
    return places_in([(low, high) for name, low, high, step in shape.dims])


class ChunksTest(Case):
    def test_example(self):
        s = Shape((("x", 0, 9, 4), ("y", -1, 1, 2)), (("v", "int"),))
        found = [chunk_of(s, (8, 0)), box_of_chunk(s, (2, 0)), box_of_chunk(s, (2, 1))]
        self.assert_same(found, [(2, 0), ((8, 9), (-1, 0)), ((8, 9), (1, 1))])
        found = [position_of(((8, 9), (-1, 0)), (9, -1)), place_at(((8, 9), (-1, 0)), 3)]
        self.assert_same(found, [2, (9, 0)])

    def test_low_and_high_of_a_dimension(self):
        s = Shape((("x", -10, 12, 5),), (("v", "int"),))
        for coordinate, chunk in ((-10, 0), (-6, 0), (-5, 1), (0, 2), (4, 2), (5, 3), (9, 3), (10, 4), (12, 4)):
            self.assert_same(chunk_of(s, (coordinate,)), (chunk,))
        boxes = [box_of_chunk(s, (chunk,)) for chunk in range(5)]
        self.assert_same(boxes, [((-10, -6),), ((-5, -1),), ((0, 4),), ((5, 9),), ((10, 12),)])

    def test_steps(self):
        for step, box, last in ((1, (0, 0), 6), (7, (0, 6), 0), (8, (0, 6), 0), (10 ** 6, (0, 6), 0), (6, (0, 5), 1)):
            s = Shape((("x", 0, 6, step),), (("v", "int"),))
            self.assert_same(box_of_chunk(s, (0,)), (box,))
            self.assert_same(chunk_of(s, (6,)), (last,))
        far = Shape((("x", -10 ** 6, 10 ** 6, 10 ** 6),), (("v", "int"),))
        self.assert_same(chunk_of(far, (10 ** 6,)), (2,))
        self.assert_same(box_of_chunk(far, (2,)), ((10 ** 6, 10 ** 6),))

    def test_each_place_lies_in_the_box_of_its_chunk_alone(self):
        for shape in (LINE, PLANE, CUBE):
            found = []
            for chunk in sorted({chunk_of(shape, place) for place in all_places(shape)}):
                places = places_in(box_of_chunk(shape, chunk))
                self.assertEqual({chunk_of(shape, place) for place in places}, {chunk})
                found.extend(places)
            self.assert_same(sorted(found), all_places(shape))

    def test_positions_and_places(self):
        for box in (((0, 0),), ((-3, 4),), ((8, 9), (-1, 0)), ((-1, 1), (5, 5), (2, 5)),
                    ((0, 1), (0, 2), (-1, 0), (3, 3), (0, 1), (-2, 0))):
            places = places_in(box)
            self.assert_same(box_size(box), len(places))
            for position, place in enumerate(places):
                self.assert_same(position_of(box, place), position)
                self.assert_same(place_at(box, position), place)

    def test_large_boxes(self):
        box = ((-10 ** 6, -1),) * 6
        self.assert_same(box_size(box), 10 ** 36)
        self.assert_same(position_of(box, (-1,) * 6), 10 ** 36 - 1)
        self.assert_same(place_at(box, 10 ** 36 - 1), (-1,) * 6)
        self.assert_same(place_at(box, 10 ** 6), (-10 ** 6,) * 4 + (1 - 10 ** 6, -10 ** 6))

    def test_splitting(self):
        array = Array(PLANE, {(9, 1): (1,), (0, -1): (None,), (3, 0): (3,), (4, 1): (4,), (0, 0): (5,)})
        found = self.assert_unchanged(split, array)
        self.assertEqual(found, {(0, 0): {(0, -1): (None,), (0, 0): (5,), (3, 0): (3,)},
                                 (1, 1): {(4, 1): (4,)}, (2, 1): {(9, 1): (1,)}})
        self.assertEqual(split(Array(PLANE, {})), {})

    def test_joining(self):
        for cells in ({}, {(1,): (2,)}, {(9,): (1,), (0,): (None,), (4,): (3,), (5,): (4,)}):
            chunks = split(Array(LINE, cells))
            joined = self.assert_unchanged(join_chunks, LINE, chunks)
            self.assertTrue(joined == Array(LINE, cells))
        self.assert_same(join_chunks(LINE, {(1,): {(6,): (7,)}, (0,): {(0,): (None,)}}).cells,
                         {(6,): (7,), (0,): (None,)})

    def test_all_places_split_and_joined(self):
        array = Array(CUBE, {place: (index, None) for index, place in enumerate(all_places(CUBE))})
        chunks = split(array)
        self.assertEqual(sorted(chunks), [(a, 0, c) for a in (0, 1) for c in (0, 1, 2)])
        for chunk, cells in chunks.items():
            self.assertEqual(len(cells), box_size(box_of_chunk(CUBE, chunk)))
        self.assertTrue(join_chunks(CUBE, chunks) == array)

    def test_dicts_are_new(self):
        array = Array(LINE, {(1,): (2,)})
        chunks = split(array)
        joined = join_chunks(LINE, chunks)
        chunks[(0,)][(2,)] = (3,)
        chunks[(1,)] = {}
        self.assert_same(array.cells, {(1,): (2,)})
        self.assert_same(joined.cells, {(1,): (2,)})
        self.assert_same(split(array), {(0,): {(1,): (2,)}})
