"""Chunks that several tests encode and decode."""

import random

from manysides.shapes import Shape
from tests.helpers import EDGE

LONG = Shape((("x", -3, 40, 22), ("y", 0, 3, 3)), (("v", "int"), ("f", "flag"), ("t", "text")))
CHUNKS = ((0, 0), (0, 1), (1, 0), (1, 1))

PALETTES = {
    "int": [[0], [5, None], [-64, 63], [-65, 64], [63, -64, 64, -65, None], [EDGE, -EDGE], [1, 2, 3, 4, 5],
            [1000, 1001, 1002, 1003], [10 ** 20, 10 ** 25], list(range(0, 2000, 7)), [None]],
    "flag": [[True], [False], [True, False], [True, False, None], [None, True], [None]],
    "text": [[""], ["a"], ["a", "b"], ["long one", "another long one"], ["x" * 200, None], ["x" * 127, "y" * 128],
             ["\n", "~ ", "a", None], [None]],
}


def draw(rolls, palette, last):
    """Returns a value of a palette; often the last one again."""
    return last if rolls.random() < 0.3 else rolls.choice(palette)


def chunks_of_cells(count):
    """Returns a list of pairs of a chunk of LONG and a dict of cells of it; always the same list."""
    rolls = random.Random(7)
    found = []
    for _ in range(count):
        chunk = rolls.choice(CHUNKS)
        places = [(x, y) for x in range(-3 + 22 * chunk[0], 19 + 22 * chunk[0])
                  for y in range(3 * chunk[1], min(3 * chunk[1] + 3, 4))]
        places = sorted(rolls.sample(places, rolls.choice([1, 2, 3, 9, len(places) // 2, len(places)])))
        columns = []
        for name, kind in LONG.attrs:
            palette = rolls.choice(PALETTES[kind])
            column = [rolls.choice(palette)]
            while len(column) < len(places):
                column.append(draw(rolls, palette, column[-1]))
            columns.append(sorted(column, key=lambda value: (value is None, value or 0)) if
                           kind == "int" and rolls.random() < 0.3 else column)
        found.append((chunk, {place: tuple([column[at] for column in columns]) for at, place in enumerate(places)}))
    return found
