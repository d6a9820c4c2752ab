"""Chunks as octets (chapter 07): the shortest forms are written, and all forms are read."""

from manysides.chunks import box_of_chunk, box_size, place_at, position_of
from manysides.errors import Damaged, InvalidText
from manysides.kinds import TEXT_BOUND, is_value
from manysides.octets import OctetReader
from manysides.texts import decode_text, encode_text

MOST_CELLS = 100000
# The forms of a column that there are for each kind.
FORMS = {"int": (0, 1, 2, 3), "flag": (0, 1), "text": (0, 1, 3)}


def write_number(n):
    """Returns the octets of a number."""
    octets = []
    rest = n
    while rest >= 128:
        octets.append(128 + rest % 128)
        rest = rest // 128
    octets.append(rest)
    return octets


def write_signed(n):
    """Returns the octets of a signed number."""
    return write_number(2 * n if n >= 0 else -2 * n - 1)


def write_bits(bits):
    """Returns the octets of bits, True and False."""
    octets = [0] * ((len(bits) + 7) // 8)
    for index, bit in enumerate(bits):
        if bit:
            octets[index // 8] += 128 >> index % 8
    return octets


def end_to_end(parts):
    """Returns the list of the octets of several lists."""
    return [octet for part in parts for octet in part]


def differences(numbers):
    """Returns the list of the first number and of the differences of each further one to the one before."""
    return [number - before for number, before in zip(numbers, [0] + numbers[:-1])]


def encode_chunk(shape, chunk, cells):
    """Returns the octets of a chunk that has the cells of a dict, at least one."""
    places = sorted(cells)
    octets = write_number(len(places)) + write_presence(box_of_chunk(shape, chunk), places)
    for index, (name, kind) in enumerate(shape.attrs):
        octets.extend(write_attribute(kind, [cells[place][index] for place in places]))
    return octets


def write_presence(box, places):
    """Returns the octets that tell which places of a box have a cell."""
    size = box_size(box)
    if len(places) == size:
        return [0]
    positions = [position_of(box, place) for place in places]
    steps = end_to_end([write_number(step) for step in differences(positions)])
    # A box may have far more places than bits can be written: so their octets are only counted at first.
    if (size + 7) // 8 > len(steps):
        return [2] + steps
    bits = [False] * size
    for position in positions:
        bits[position] = True
    return [1] + write_bits(bits)


def write_attribute(kind, values):
    """Returns the octets of the missing values and of the column of an attribute."""
    known = [value for value in values if value is not None]
    if not known:
        return [2]
    if len(known) == len(values):
        return [0] + write_column(kind, known)
    return [1] + write_bits([value is None for value in values]) + write_column(kind, known)


def write_column(kind, values):
    """Returns the octets of a column of values that are not missing, at least one."""
    columns = [[0] + write_values(kind, values), [1] + write_runs(kind, values)]
    if kind == "int":
        columns.append([2] + end_to_end([write_signed(step) for step in differences(values)]))
    if kind != "flag":
        columns.append([3] + write_indexes(kind, values))
    # Of several that are shortest, this is the first one, whose form is the least.
    return min(columns, key=len)


def write_value(kind, value):
    """Returns the octets of a value."""
    if kind == "int":
        return write_signed(value)
    if kind == "flag":
        return [1 if value else 0]
    return write_number(len(value)) + encode_text(value)


def write_values(kind, values):
    """Returns the octets of values, each by itself."""
    if kind == "flag":
        return write_bits(values)
    return end_to_end([write_value(kind, value) for value in values])


def write_runs(kind, values):
    """Returns the octets of values as runs."""
    runs = []
    for value in values:
        if runs and runs[-1][0] == value:
            runs[-1] = (value, runs[-1][1] + 1)
        else:
            runs.append((value, 1))
    return write_number(len(runs)) + end_to_end([write_value(kind, value) + write_number(n) for value, n in runs])


def write_indexes(kind, values):
    """Returns the octets of values as indexes among the different ones."""
    indexes = {}
    for value in values:
        if value not in indexes:
            indexes[value] = len(indexes)
    octets = write_number(len(indexes)) + write_values(kind, list(indexes))
    return octets + end_to_end([write_number(indexes[value]) for value in values])


def decode_chunk(shape, chunk, octets):
    """Returns the dict of the cells of a chunk, in the order of places. Raises Truncated and Damaged."""
    reader = OctetReader(octets)
    box = box_of_chunk(shape, chunk)
    size = box_size(box)
    count = reader.next_number_in(1, min(size, MOST_CELLS))
    positions = read_presence(reader, size, count)
    columns = [read_attribute(reader, kind, count) for name, kind in shape.attrs]
    if not reader.is_at_end():
        raise Damaged(reader.at)
    places = [place_at(box, position) for position in positions]
    return {place: tuple([column[index] for column in columns]) for index, place in enumerate(places)}


def read_presence(reader, size, count):
    """Returns the ascending list of the positions of the cells in a box."""
    form = reader.next_octet_of((0, 1, 2) if count == size else (1, 2))
    if form == 0:
        return list(range(count))
    if form == 2:
        return read_positions(reader, size, count)
    first = reader.at
    positions = [position for position, bit in enumerate(reader.next_bits(size)) if bit]
    if len(positions) != count:
        raise Damaged(first)
    return positions


def read_positions(reader, size, count):
    """Returns the list of the positions that are written as differences."""
    positions = [reader.next_number_in(0, size - 1)]
    while len(positions) < count:
        before = positions[-1]
        positions.append(before + reader.next_number_in(1, size - 1 - before))
    return positions


def read_attribute(reader, kind, count):
    """Returns the list of the values of an attribute, missing ones included."""
    missing = read_missing(reader, count)
    known = missing.count(False)
    column = read_column(reader, kind, known) if known > 0 else []
    values = []
    used = 0
    for gap in missing:
        if gap:
            values.append(None)
        else:
            values.append(column[used])
            used += 1
    return values


def read_missing(reader, count):
    """Returns a list that tells for each cell if its value is missing."""
    form = reader.next_octet_of((0, 1, 2))
    if form != 1:
        return [form == 2] * count
    first = reader.at
    bits = reader.next_bits(count)
    if True not in bits or False not in bits:
        raise Damaged(first)
    return bits


def read_column(reader, kind, count):
    """Returns the list of the values of a column."""
    form = reader.next_octet_of(FORMS[kind])
    if form == 0:
        return read_values(reader, kind, count)
    if form == 1:
        return read_runs(reader, kind, count)
    if form == 2:
        return read_steps(reader, count)
    return read_indexes(reader, kind, count)


def read_value(reader, kind):
    """Returns the next value. Raises Damaged at its first octet if it is none of its kind."""
    if kind == "flag":
        return reader.next_octet_of((0, 1)) == 1
    if kind == "text":
        return read_text(reader)
    first = reader.at
    value = reader.next_signed()
    if not is_value("int", value):
        raise Damaged(first)
    return value


def read_text(reader):
    """Returns the next text."""
    first = reader.at
    octets = reader.next_octets(reader.next_number_in(0, TEXT_BOUND))
    try:
        return decode_text(octets)
    except InvalidText:
        raise Damaged(first) from None


def read_values(reader, kind, count):
    """Returns the list of values that are written each by itself."""
    if kind == "flag":
        return reader.next_bits(count)
    return [read_value(reader, kind) for _ in range(count)]


def read_runs(reader, kind, count):
    """Returns the list of values that are written as runs."""
    first = reader.at
    values = []
    for _ in range(reader.next_number_in(1, count)):
        value = read_value(reader, kind)
        values.extend([value] * reader.next_number_in(1, count - len(values)))
    if len(values) < count:
        raise Damaged(first)
    return values


def read_steps(reader, count):
    """Returns the list of integers that are written as differences."""
    values = []
    value = 0
    while len(values) < count:
        first = reader.at
        value += reader.next_signed()
        if not is_value("int", value):
            raise Damaged(first)
        values.append(value)
    return values


def read_indexes(reader, kind, count):
    """Returns the list of values that are written as indexes among the different ones."""
    different = {}
    total = reader.next_number_in(1, count)
    while len(different) < total:
        first = reader.at
        value = read_value(reader, kind)
        if value in different:
            raise Damaged(first)
        different[value] = True
    values = list(different)
    return [values[reader.next_number_in(0, total - 1)] for _ in range(count)]
