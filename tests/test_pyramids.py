"""Points 16.1 to 16.6: totals, and pyramids."""

import random

from manysides.arrays import Array
from manysides.chunks import split
from manysides.pyramids import Pyramid, together, totals_of
from manysides.shapes import Shape
from tests import made
from tests.helpers import Case, EDGE

LINE = Shape((("x", 0, 9, 2),), (("v", "int"),))
MIXED = Shape((("x", 0, 9, 2),), (("v", "int"), ("f", "flag"), ("t", "text")))
# One dimension with 2 chunks, one with 7 (the last one shorter), and one with a step longer than its extent.
WIDE = Shape((("x", -3, 2, 3), ("y", 5, 24, 3), ("z", 0, 3, 9)), (("v", "int"), ("t", "text")))


def line(cells):
    return Array(LINE, {(place,): (value,) for place, value in cells.items()})


def example():
    return Pyramid(line({0: 5, 3: -1, 8: None}))


def box_of(shape, level, index):
    """Returns the pairs of the bounds of a box, as point 16.2 tells them."""
    return [(dim[1] + dim[3] * 2 ** level * at, min(dim[1] + dim[3] * 2 ** level * (at + 1) - 1, dim[2]))
            for at, dim in zip(index, shape.dims)]


def inside(place, pairs):
    return all([low <= at <= high for at, (low, high) in zip(place, pairs)])


class TotalsTest(Case):
    def test_no_cells(self):
        self.assert_same(totals_of(MIXED, {}), (0, ((0, 0, None, None), (0, None, None, None), (0, None, None, None))))

    def test_kinds_and_missing_values(self):
        cells = {(1,): (3, True, "b"), (2,): (None, None, None), (4,): (-5, False, ""), (5,): (0, None, "Z")}
        self.assert_same(self.assert_unchanged(totals_of, MIXED, cells),
                         (4, ((3, -2, -5, 3), (2, None, False, True), (3, None, "", "b"))))
        self.assert_same(totals_of(MIXED, {(1,): (None, None, None)}),
                         (1, ((0, 0, None, None), (0, None, None, None), (0, None, None, None))))
        self.assert_same(totals_of(MIXED, {(1,): (0, False, "")}), (1, ((1, 0, 0, 0), (1, None, False, False), (1, None, "", ""))))

    def test_sums_have_no_bound(self):
        cells = {(1,): (EDGE,), (2,): (EDGE,), (3,): (1,)}
        self.assert_same(totals_of(LINE, cells), (3, ((3, 2 * EDGE + 1, 1, EDGE),)))
        both = together(totals_of(LINE, cells), totals_of(LINE, cells))
        self.assert_same(both, (6, ((6, 4 * EDGE + 2, 1, EDGE),)))

    def test_together(self):
        cells = {(1,): (3, True, "b"), (2,): (None, None, None), (4,): (-5, False, ""), (5,): (0, None, "Z"),
                 (7,): (9, True, None)}
        for taken in range(32):
            first = {place: cells[place] for index, place in enumerate(sorted(cells)) if taken >> index & 1}
            second = {place: cells[place] for place in cells if place not in first}
            self.assert_same(self.assert_unchanged(together, totals_of(MIXED, first), totals_of(MIXED, second)),
                             totals_of(MIXED, cells))


class LevelsTest(Case):
    def test_example(self):
        p = example()
        self.assert_same([p.levels(), p.box(2, (0,)), p.cover(((0, 4),)), p.ask(((1, 9),))],
                         [4, (2, ((2, 4, -1, 5),)), [(1, (0,))], (2, ((1, -1, -1, -1),))])
        self.assert_same([p.put((4,), (7,)), p.loose(((0, 4),)), p.ask(((0, 4),))], [4, [(4,)], (3, ((3, 11, -1, 7),))])

    def test_number_of_levels(self):
        for low, high, step, levels in ((0, 0, 1, 1), (0, 9, 10, 1), (0, 9, 1000000, 1), (0, 9, 9, 2), (0, 9, 5, 2), (0, 9, 4, 3),
                                        (0, 9, 3, 3), (0, 9, 1, 5), (0, 7, 1, 4), (0, 8, 1, 5), (-7, 8, 2, 4),
                                        (-1000000, 1000000, 1, 22)):
            shape = Shape((("x", low, high, step),), (("v", "int"),))
            self.assert_same(Pyramid(Array(shape, {})).levels(), levels)
            both = Shape((("y", 5, 6, 1), ("x", low, high, step), ("z", 0, 0, 1)), (("v", "int"),))
            self.assert_same(Pyramid(Array(both, {})).levels(), max(levels, 2))
        self.assert_same(Pyramid(Array(WIDE, {})).levels(), 4)

    def test_boxes_that_are_kept(self):
        p = example()
        kept = {(0, (0,)): (1, ((1, 5, 5, 5),)), (0, (1,)): (1, ((1, -1, -1, -1),)), (0, (4,)): (1, ((0, 0, None, None),)),
                (1, (0,)): (2, ((2, 4, -1, 5),)), (1, (2,)): (1, ((0, 0, None, None),)), (2, (0,)): (2, ((2, 4, -1, 5),)),
                (2, (1,)): (1, ((0, 0, None, None),)), (3, (0,)): (3, ((2, 4, -1, 5),))}
        for level in range(4):
            for index in range(6):
                self.assert_same(p.box(level, (index,)), kept.get((level, (index,))))

    def test_without_cells(self):
        p = Pyramid(Array(LINE, {}))
        self.assert_same([p.levels(), p.box(3, (0,)), p.cover(((0, 9),)), p.loose(((0, 9),)), p.ask(((0, 9),)), p.cells()],
                         [4, None, [], [], (0, ((0, 0, None, None),)), {}])


class ChangesTest(Case):
    def test_a_new_cell(self):
        p = example()
        self.assert_same(p.put((9,), (2,)), 4)
        self.assert_same([p.box(0, (4,)), p.box(1, (2,)), p.box(2, (1,)), p.box(3, (0,))], [
            (2, ((1, 2, 2, 2),)), (2, ((1, 2, 2, 2),)), (2, ((1, 2, 2, 2),)), (4, ((3, 6, -1, 5),))])
        self.assert_same(p.put((5,), (1,)), 4)
        self.assert_same([p.box(0, (2,)), p.box(1, (1,)), p.box(2, (0,)), p.box(0, (3,))], [
            (1, ((1, 1, 1, 1),)), (1, ((1, 1, 1, 1),)), (3, ((3, 5, -1, 5),)), None])

    def test_replacing(self):
        p = example()
        self.assert_same(p.put((0,), (-9,)), 4)
        self.assert_same([p.box(0, (0,)), p.box(3, (0,))], [(1, ((1, -9, -9, -9),)), (3, ((2, -10, -9, -1),))])
        self.assert_same(p.put((0,), (None,)), 4)
        self.assert_same([p.box(0, (0,)), p.box(3, (0,))], [(1, ((0, 0, None, None),)), (3, ((1, -1, -1, -1),))])

    def test_taking(self):
        p = example()
        self.assert_same(p.take((1,)), 0)
        self.assert_same(p.take((6,)), 0)
        self.assert_same(p.ask(((0, 9),)), (3, ((2, 4, -1, 5),)))
        self.assert_same(p.take((3,)), 4)
        self.assert_same(p.take((3,)), 0)
        self.assert_same([p.box(0, (1,)), p.box(1, (0,)), p.box(3, (0,))], [
            None, (1, ((1, 5, 5, 5),)), (2, ((1, 5, 5, 5),))])
        self.assert_same([p.take((0,)), p.take((8,))], [4, 4])
        self.assert_same([p.box(level, (0,)) for level in range(4)] + [p.box(0, (4,)), p.box(2, (1,))], [None] * 6)
        self.assert_same([p.cells(), p.cover(((0, 9),)), p.put((8,), (3,)), p.box(3, (0,))], [{}, [], 4, (1, ((1, 3, 3, 3),))])

    def test_one_level(self):
        p = Pyramid(Array(Shape((("x", 0, 9, 10),), (("v", "int"),)), {}))
        self.assert_same([p.put((3,), (1,)), p.take((2,)), p.box(0, (0,)), p.take((3,)), p.box(0, (0,))],
                         [1, 0, (1, ((1, 1, 1, 1),)), 1, None])

    def test_what_is_passed_or_returned_is_copied(self):
        array = line({0: 5, 3: -1})
        p = Pyramid(array)
        array.cells.clear()
        p.cells().clear()
        p.cover(((0, 9),)).clear()
        p.loose(((3, 3),)).clear()
        self.assert_same(p.cells(), {(0,): (5,), (3,): (-1,)})
        other = line({0: 5})
        Pyramid(other).put((1,), (1,))
        self.assert_same(other.cells, {(0,): (5,)})
        before = p.cells()
        p.take((0,))
        self.assert_same(before, {(0,): (5,), (3,): (-1,)})


class CoverTest(Case):
    def test_line(self):
        p = Pyramid(line({place: place for place in range(10)}))
        for region, cover, loose in ((((0, 9),), [(3, (0,))], []), (((0, 8),), [(2, (0,))], [(8,)]),
                                     (((1, 8),), [(0, (1,)), (1, (1,))], [(1,), (8,)]), (((8, 9),), [(2, (1,))], []),
                                     (((4, 9),), [(1, (1,)), (2, (1,))], []), (((3, 3),), [], [(3,)]),
                                     (((2, 7),), [(0, (1,)), (1, (1,))], []), (((9, 9),), [], [(9,)])):
            self.assert_same(p.cover(region), cover)
            self.assert_same(p.loose(region), loose)

    def test_boxes_that_are_not_kept_are_left_out(self):
        p = example()
        self.assert_same(p.cover(((2, 9),)), [(0, (1,)), (2, (1,))])
        self.assert_same(p.cover(((4, 7),)), [])
        self.assert_same(p.loose(((4, 7),)), [])
        self.assert_same([p.cover(((3, 8),)), p.loose(((3, 8),))], [[], [(3,), (8,)]])

    def test_the_order_of_the_cover(self):
        shape = Shape((("x", 0, 3, 1), ("y", 0, 3, 1)), (("v", "int"),))
        p = Pyramid(Array(shape, {place: (1,) for place in made.places_in(shape)}))
        self.assert_same(p.cover(((0, 3), (1, 3))), [
            (0, (0, 1)), (0, (1, 1)), (1, (0, 1)), (0, (2, 1)), (0, (3, 1)), (1, (1, 1))])
        self.assert_same(p.cover(((1, 2), (1, 2))), [(0, (1, 1)), (0, (1, 2)), (0, (2, 1)), (0, (2, 2))])

    def test_many_regions_and_changes(self):
        rolls = random.Random(14)
        for shape in (LINE, MIXED, WIDE, made.SHAPES["c"], made.SHAPES["d"]):
            for _ in range(12):
                cells = dict(made.some_array(rolls, shape).cells)
                p = self.assert_unchanged(Pyramid, Array(shape, cells))
                for _ in range(12):
                    self.change(rolls, p, shape, cells)
                    self.assert_same(sorted(p.cells().items()), sorted(cells.items()))
                    self.assert_region(p, shape, cells, made.some_region(rolls, shape))
                self.assert_boxes(p, shape, cells)

    def change(self, rolls, p, shape, cells):
        place = rolls.choice(made.places_in(shape))
        if rolls.random() < 0.5:
            values = made.values_for(rolls, shape)
            self.assert_same(p.put(place, values), p.levels())
            cells[place] = values
        else:
            self.assert_same(p.take(place), p.levels() if place in cells else 0)
            cells.pop(place, None)

    def assert_region(self, p, shape, cells, region):
        wanted = {place: cells[place] for place in cells if inside(place, region)}
        self.assert_same(p.ask(region), totals_of(shape, wanted))
        boxes = [box_of(shape, level, index) for level, index in p.cover(region)]
        held = [[place for place in wanted if inside(place, box)] for box in boxes]
        self.assertTrue(all([low <= first <= last <= high for box in boxes for (first, last), (low, high) in zip(box, region)]))
        together = sum(held, []) + p.loose(region)
        self.assert_same(sorted(together), sorted(wanted))
        self.assert_same(p.loose(region), sorted(p.loose(region)))
        for chunk in split(Array(shape, wanted)):
            box = box_of(shape, 0, chunk)
            if all([low <= first <= last <= high for (first, last), (low, high) in zip(box, region)]):
                self.assertEqual([place for place in p.loose(region) if inside(place, box)], [])

    def assert_boxes(self, p, shape, cells):
        for level in range(p.levels()):
            counts = [(dim[2] - dim[1]) // (dim[3] * 2 ** level) + 1 for dim in shape.dims]
            for index in made.places_in(Shape(tuple([("d", 0, count - 1, 1) for count in counts]), ())):
                held = {place: cells[place] for place in cells if inside(place, box_of(shape, level, index))}
                self.assert_same(p.box(level, index), totals_of(shape, held) if held else None)
        self.assertEqual(counts, [1] * len(counts))
