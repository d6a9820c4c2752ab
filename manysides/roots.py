"""Roots, which tell what a store holds, as octets (chapter 18)."""

from manysides.errors import Damaged, InvalidShape, InvalidText
from manysides.kinds import KINDS
from manysides.octets import OctetReader
from manysides.shapes import Shape, check_shape, is_simple_name
from manysides.texts import decode_text, encode_text

FIRST_OCTETS = (77, 83)
SUM_MODULUS = 65521
# What is added to a low and a high, which may be negative.
LIFT = 1 << 31
GREATEST_NUMBER = (1 << 32) - 1


class Root:
    """The number of the next version, that of the data file, and the versions of a store."""

    def __init__(self, upcoming, data, versions):
        self.upcoming = upcoming
        self.data = data
        self.versions = versions

    def __eq__(self, other):
        return (isinstance(other, Root) and self.upcoming == other.upcoming and self.data == other.data
                and self.versions == other.versions)


def sum_of(octets):
    """Returns the sum of octets."""
    first = 1
    second = 0
    for octet in octets:
        first = (first + octet) % SUM_MODULUS
        second = (second + first) % SUM_MODULUS
    return second * 65536 + first


def write_four(number):
    """Returns the four octets of a number."""
    return [number >> 24 & 255, number >> 16 & 255, number >> 8 & 255, number & 255]


def write_name(name):
    """Returns the octets of a name."""
    return [len(name)] + encode_text(name)


def encode_root(root):
    """Returns the octets of a root."""
    octets = list(FIRST_OCTETS) + write_four(root.upcoming) + write_four(root.data) + write_four(len(root.versions))
    for number, arrays in root.versions:
        octets.extend(write_four(number) + write_four(len(arrays)))
        for name, shape, chunks in arrays:
            octets.extend(write_name(name) + write_shape(shape) + write_chunks(chunks))
    return octets + write_four(sum_of(octets))


def write_shape(shape):
    """Returns the octets of a shape."""
    octets = [len(shape.dims)]
    for name, low, high, step in shape.dims:
        octets.extend(write_name(name) + write_four(low + LIFT) + write_four(high + LIFT) + write_four(step))
    octets.append(len(shape.attrs))
    for name, kind in shape.attrs:
        octets.extend(write_name(name) + [KINDS.index(kind)])
    return octets


def write_chunks(chunks):
    """Returns the octets of the chunks of an array."""
    octets = write_four(len(chunks))
    for chunk, offset, length in chunks:
        for number in (*chunk, offset, length):
            octets.extend(write_four(number))
    return octets


def decode_root(octets):
    """Returns the Root of octets. Raises Truncated and Damaged."""
    reader = OctetReader(octets)
    for octet in FIRST_OCTETS:
        reader.next_octet_of((octet,))
    upcoming = reader.next_four_in(1, GREATEST_NUMBER)
    data = reader.next_four()
    versions = []
    for _ in range(reader.next_four()):
        earlier = versions[-1][0] if versions else 0
        number = reader.next_four_in(earlier + 1, upcoming - 1)
        versions.append((number, read_arrays(reader)))
    first = reader.at
    total = sum_of(octets[:first])
    reader.next_four_in(total, total)
    if not reader.is_at_end():
        raise Damaged(reader.at)
    return Root(upcoming, data, tuple(versions))


def read_arrays(reader):
    """Returns the tuple of the arrays of a version."""
    arrays = []
    for _ in range(reader.next_four()):
        first = reader.at
        name = read_name(reader)
        if arrays and arrays[-1][0] >= name:
            raise Damaged(first)
        shape = read_shape(reader)
        arrays.append((name, shape, read_chunks(reader, shape)))
    return tuple(arrays)


def read_name(reader):
    """Returns the next name. Raises Damaged at its length if it is no simple name."""
    first = reader.at
    octets = reader.next_octets(reader.next_octets(1)[0])
    try:
        name = decode_text(octets)
    except InvalidText:
        raise Damaged(first) from None
    if not is_simple_name(name):
        raise Damaged(first)
    return name


def read_shape(reader):
    """Returns the next shape. Raises Damaged at its number of dimensions if it is none."""
    first = reader.at
    dims = [read_dim(reader) for _ in range(reader.next_octets(1)[0])]
    attrs = [read_attr(reader) for _ in range(reader.next_octets(1)[0])]
    shape = Shape(tuple(dims), tuple(attrs))
    try:
        check_shape(shape)
    except InvalidShape:
        raise Damaged(first) from None
    return shape


def read_dim(reader):
    """Returns the next dimension."""
    name = read_name(reader)
    low = reader.next_four() - LIFT
    high = reader.next_four() - LIFT
    return (name, low, high, reader.next_four())


def read_attr(reader):
    """Returns the next attribute."""
    name = read_name(reader)
    return (name, KINDS[reader.next_octet_of((0, 1, 2))])


def read_chunks(reader, shape):
    """Returns the tuple of the chunks of an array."""
    last = [(high - low) // step for name, low, high, step in shape.dims]
    chunks = []
    for _ in range(reader.next_four()):
        first = reader.at
        chunk = tuple([reader.next_four() for _ in shape.dims])
        if not all([index <= most for index, most in zip(chunk, last)]):
            raise Damaged(first)
        if chunks and chunks[-1][0] >= chunk:
            raise Damaged(first)
        offset = reader.next_four()
        chunks.append((chunk, offset, reader.next_four()))
    return tuple(chunks)
