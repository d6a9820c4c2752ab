"""All forms of a chunk as octets (points 07.1 to 07.5), written a second time and in another way."""

import itertools


def number(n):
    """Returns the octets of a number, the least seven bits first."""
    digits = [n % 128]
    while n // 128 ** len(digits):
        digits.append(n // 128 ** len(digits) % 128)
    return [128 + digit for digit in digits[:-1]] + digits[-1:]


def signed(n):
    """Returns the octets of a signed number."""
    return number(-2 * n - 1) if n < 0 else number(2 * n)


def bits(flags):
    """Returns the octets of bits."""
    row = "".join(["1" if flag else "0" for flag in flags])
    row += "0" * (-len(row) % 8)
    return [int(row[at:at + 8], 2) for at in range(0, len(row), 8)]


def flat(rows):
    return [octet for row in rows for octet in row]


def presences(box, places):
    """Returns the dict of the forms of the presence that are possible."""
    everywhere = list(itertools.product(*[range(least, greatest + 1) for least, greatest in box]))
    positions = [everywhere.index(place) for place in places]
    steps = [positions[0]] + [right - left for left, right in itertools.pairwise(positions)]
    forms = {1: bits([place in places for place in everywhere]), 2: flat([number(step) for step in steps])}
    if len(places) == len(everywhere):
        forms[0] = []
    return {form: [form] + forms[form] for form in sorted(forms)}


def missing(values):
    """Returns the octets of the missing values."""
    gaps = [value is None for value in values]
    if all(gaps):
        return [2]
    return [1] + bits(gaps) if any(gaps) else [0]


def one(kind, value):
    """Returns the octets of a value."""
    if kind == "flag":
        return [int(value)]
    return signed(value) if kind == "int" else number(len(value)) + list(value.encode("ascii"))


def row(kind, values):
    """Returns the octets of values, each by itself."""
    return bits(values) if kind == "flag" else flat([one(kind, value) for value in values])


def columns(kind, values):
    """Returns the dict of the forms of the column that there are for the kind."""
    runs = [(value, len(list(run))) for value, run in itertools.groupby(values)]
    different = list(dict.fromkeys(values))
    forms = {0: row(kind, values),
             1: number(len(runs)) + flat([one(kind, value) + number(count) for value, count in runs])}
    if kind == "int":
        forms[2] = flat([signed(right - left) for left, right in itertools.pairwise([0] + values)])
    if kind != "flag":
        forms[3] = number(len(different)) + row(kind, different) + flat([number(different.index(v)) for v in values])
    return {form: [form] + forms[form] for form in forms}


def pieces(shape, box, cells):
    """Returns the list of the pieces of a chunk, each the list of its possible octets, by ascending forms."""
    places = sorted(cells)
    found = [[number(len(places))], list(presences(box, places).values())]
    for index, (name, kind) in enumerate(shape.attrs):
        values = [cells[place][index] for place in places]
        known = [value for value in values if value is not None]
        found.append([missing(values)])
        if known:
            found.append(list(columns(kind, known).values()))
    return found


def shortest(shape, box, cells):
    """Returns the octets of a chunk in the forms that are to be written."""
    return flat([sorted(piece, key=len)[0] for piece in pieces(shape, box, cells)])


def every(shape, box, cells):
    """Returns the list of the octets of a chunk in all combinations of forms."""
    return [flat(choice) for choice in itertools.product(*pieces(shape, box, cells))]
