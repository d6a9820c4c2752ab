"""Queries: their operators, and their shapes (chapter 10)."""

from manysides.errors import InvalidQuery
from manysides.shaping import shape_over

WORDS_WITH_TWO_PARTS = ("join", "either", "across", "match")


def parts_of(query):
    """Returns the tuple of the parts of a query."""
    if query[0] == "scan":
        return ()
    if query[0] in WORDS_WITH_TWO_PARTS:
        return query[1:3]
    return query[1:2]


def with_parts(query, parts):
    """Returns a query with other parts."""
    return (query[0], *parts, *query[1 + len(parts_of(query)):])


def operators(query):
    """Returns the list of the queries of all operators of a query, in the order of writing."""
    found = []
    waiting = [query]
    while waiting:
        inner = waiting.pop()
        found.append(inner)
        waiting.extend(list(reversed(parts_of(inner))))
    return found


def shape_of(query, shapes):
    """Returns the Shape of a query over arrays with the Shapes of a dict. Raises InvalidQuery."""
    return Layout(query, shapes).own_shapes[0]


def part_numbers(rows):
    """Returns for each of the operators of a query the list of the numbers of its parts."""
    numbers = [[] for _ in rows]
    sizes = [1] * len(rows)
    for number in reversed(range(len(rows))):
        upcoming = number + 1
        for _ in parts_of(rows[number]):
            numbers[number].append(upcoming)
            upcoming += sizes[upcoming]
        sizes[number] = upcoming - number
    return numbers


def inside_out(numbers):
    """Returns the list of the numbers of all operators, each one behind its parts, and these from left to right."""
    found = []
    waiting = [0]
    while waiting:
        number = waiting.pop()
        found.append(number)
        waiting.extend(numbers[number])
    return list(reversed(found))


class Layout:
    """The operators of a query by their numbers, with the numbers of their parts and their own shapes.

    It serves to go through a query without recursion, since no bound is told for how deep a query is.
    """

    def __init__(self, query, shapes):
        """Raises InvalidQuery if the query has no shape."""
        self.rows = operators(query)
        self.parts = part_numbers(self.rows)
        self.order = inside_out(self.parts)
        self.own_shapes = [None] * len(self.rows)
        for number in self.order:
            shape = shape_over(self.rows[number], self.part_shapes(number), shapes)
            if shape is None:
                raise InvalidQuery(number)
            self.own_shapes[number] = shape

    def part_shapes(self, number):
        """Returns the list of the shapes of the parts of the operator with a number."""
        return [self.own_shapes[inner] for inner in self.parts[number]]
