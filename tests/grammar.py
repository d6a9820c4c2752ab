"""The rules of points 22.2 and 22.3 as a grammar, and where a text first leaves it, found by keeping all ways open."""

from manysides.tokens import RESERVED, split_words

AGGREGATE_WORDS = "count known sum least greatest first all any".split()


RULES = """
Query = Source | Query bar Step
Source = NAME | ( Query ) | Pair ( Query ; Query ) | match ( Query ; Query ) on Equals
Pair = join | either | across
Step = box Ranges | shift Numbers | keep E1 | with Definitions | only Names | named Renamings | turned Names
Step = group Names : Aggregates | window Spans : Aggregates | regrid Numbers : Aggregates | reform Dims : Aggregates
Step = filled Values | ranked NAME | sorted Keys as NAME limit Int
Int = SMALL | - SMALL
Range = NAME Int to Int
Number = NAME by Int
Definition = NAME equals E1
Name = NAME
Renaming = NAME as NAME
Span = NAME back Int ahead Int
Dim = NAME Int to Int step Int
Equal = NAME equals NAME
Key = E1 up | E1 down
Aggregate = NAME equals WORD ( ) | NAME equals WORD ( E1 )
Value = NUMBER | - NUMBER | STRING | true | false | missing
E1 = E2 | E1 or E2
E2 = E3 | E2 and E3
E3 = E4 | not E3
E4 = E5 | E5 Compared E5
Compared = equals | <> | < | <= | > | >=
E5 = E6 | E5 ++ E6
E6 = E7 | E6 + E7 | E6 - E7
E7 = E8 | E7 * E8 | E7 / E8 | E7 mod E8
E8 = E9 | - E8
E9 = NUMBER | STRING | true | false | missing int | missing flag | missing text | NAME | @ NAME
E9 = abs ( E1 ) | length ( E1 ) | is missing ( E1 ) | if ( E1 , E1 , E1 ) | orelse ( E1 , E1 ) | ( E1 )
"""
LISTS = ("Equal", "Range", "Number", "Definition", "Name", "Renaming", "Span", "Dim", "Key", "Aggregate", "Value")
# Two signs that have a meaning in the rules above.
SIGNS = {"bar": "|", "equals": "="}


def read_rules(text):
    """Returns a dict of the names of rules and the lists of what they stand for."""
    found = {}
    for line in text.strip().split("\n"):
        name, right = line.split(" = ")
        for way in right.split(" | "):
            found.setdefault(name, []).append(tuple([SIGNS.get(word, word) for word in way.split()]))
    for item in LISTS:
        found[f"{item}s"] = [(), (f"More{item}s",)]
        found[f"More{item}s"] = [(item,), (f"More{item}s", ",", item)]
    return found


GRAMMAR = read_rules(RULES)


def fits(symbol, kind, word):
    """Returns True if a word is one that a symbol stands for."""
    if symbol == "NAME":
        return kind == "quoted" or (kind == "name" and word not in RESERVED)
    if symbol == "WORD":
        return kind == "name" and word in AGGREGATE_WORDS
    if symbol in ("NUMBER", "SMALL"):
        return kind == "number" and (symbol == "NUMBER" or word < 10 ** 7)
    if symbol == "STRING":
        return kind == "string"
    return kind in ("name", "sign") and word == symbol


def closure(sets, rows):
    """Returns the dict of all items that follow from some items behind the words so far (Earley's way)."""
    found = dict.fromkeys(rows)
    waiting = list(rows)
    while waiting:
        name, way, at, start = waiting.pop()
        if at < len(way) and way[at] in GRAMMAR:
            new = [(way[at], other, 0, len(sets)) for other in GRAMMAR[way[at]]]
            # What is empty may be complete already.
            new += [(name, way, at + 1, start)] if () in GRAMMAR[way[at]] else []
        elif at == len(way):
            inner = found if start == len(sets) else sets[start]
            new = [(row[0], row[1], row[2] + 1, row[3]) for row in inner if row[2] < len(row[1]) and row[1][row[2]] == name]
        else:
            new = []
        for row in new:
            if row not in found:
                found[row] = None
                waiting.append(row)
    return found


def first_fault(text, start):
    """Returns the place of the first word that does not fit, or the length of the text, or None if there is no fault."""
    sets = []
    sets.append(closure(sets, [("whole", (start,), 0, 0)]))
    for place, kind, word in split_words(text):
        rows = [(name, way, at + 1, begun) for name, way, at, begun in sets[-1]
                if at < len(way) and way[at] not in GRAMMAR and fits(way[at], kind, word)]
        if not rows:
            return place
        sets.append(closure(sets, rows))
    return None if ("whole", (start,), 1, 0) in sets[-1] else len(text)


def some_words(rolls, symbol, depth):
    """Returns a list of words that a symbol stands for, as texts."""
    if symbol not in GRAMMAR:
        return [{"NAME": rolls.choice(("a", "x", "count", "'box'", "'b'")), "WORD": rolls.choice(AGGREGATE_WORDS),
                 "NUMBER": rolls.choice(("0", "7", "10000000", "9" * 30)), "SMALL": rolls.choice(("3", "9999999", "0")),
                 "STRING": rolls.choice(("\"\"", "\"b c\""))}.get(symbol, symbol)]
    ways = GRAMMAR[symbol]
    # Deep inside, the shortest ways are taken: those that lead back to their own rule come last.
    way = rolls.choice(ways) if depth > 0 else ways[0]
    return [word for part in way for word in some_words(rolls, part, depth - 1)]
