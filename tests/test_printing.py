"""Points 22.5 and 22.6: queries and expressions as texts."""

import random

from manysides.parsing import parse_expression, parse_query
from manysides.printing import print_expression, print_query
from manysides.tokens import RESERVED, split_words
from tests import made
from tests.helpers import Case

A, B, C, D = [("attr", name) for name in "abcd"]
M, N = ("scan", "m"), ("scan", "n")
COUNT = ("n", "count", None)
SIGNS = (("or", "or"), ("and", "and"), ("=", "eq"), ("<>", "ne"), ("<", "lt"), ("<=", "le"), (">", "gt"), (">=", "ge"), ("++", "joined"),
         ("+", "add"), ("-", "sub"), ("*", "mul"), ("/", "div"), ("mod", "mod"))
FUNCTIONS = ((("abs", A), "abs(a)"), (("length", A), "length(a)"), (("is missing", A), "is missing(a)"), (("if", A, B, C), "if(a, b, c)"),
             (("or else", A, B), "orelse(a, b)"))
NAMES = ("a", "x", "count", "_1", "box", "is", "to", "int", "missing", "a" * 30)


def num(n):
    return ("value", "int", n)


class ExpressionTest(Case):
    def assert_written(self, expression, text):
        self.assert_same(self.assert_unchanged(print_expression, expression), text)
        self.assert_same(parse_expression(text), expression)

    def test_values(self):
        for value, text in ((("int", 0), "0"), (("int", 7), "7"), (("int", -7), "-7"), (("int", 10 ** 30 - 1), "9" * 30),
                            (("int", 1 - 10 ** 30), "-" + "9" * 30), (("flag", True), "true"), (("flag", False), "false"),
                            (("text", ""), "\"\""), (("text", "a b"), "\"a b\""), (("text", "'"), "\"'\""), (("text", "\""), "\"\\\"\""),
                            (("text", "\\"), "\"\\\\\""), (("text", "\n"), "\"\\n\""), (("text", "\\n"), "\"\\\\n\""),
                            (("text", "a\"\\\nb\\\""), "\"a\\\"\\\\\\nb\\\\\\\"\""), (("int", None), "missing int"),
                            (("flag", None), "missing flag"), (("text", None), "missing text"), (("text", "true"), "\"true\"")):
            self.assert_written(("value", *value), text)

    def test_names(self):
        for name in ("a", "count", "Box", "_", "x1"):
            self.assert_written(("attr", name), name)
            self.assert_written(("dim", name), f"@{name}")
        for name in RESERVED:
            self.assert_written(("attr", name), f"'{name}'")
            self.assert_written(("dim", name), f"@'{name}'")

    def test_functions(self):
        for expression, text in FUNCTIONS:
            self.assert_written(expression, text)
        self.assert_written(("abs", ("add", A, B)), "abs(a + b)")
        self.assert_written(("is missing", ("neg", A)), "is missing(-(a))")
        self.assert_written(("if", ("not", A), ("or", A, B), ("if", A, ("dim", "x"), num(-3))), "if(not a, a or b, if(a, @x, -3))")
        self.assert_written(("or else", ("value", "int", None), ("sub", A, num(-1))), "orelse(missing int, a - -1)")

    def test_neg(self):
        self.assert_written(("neg", A), "-(a)")
        self.assert_written(("neg", num(3)), "-(3)")
        self.assert_written(("neg", num(-3)), "-(-3)")
        self.assert_written(("neg", ("neg", A)), "-(-(a))")
        self.assert_written(("neg", ("add", A, B)), "-(a + b)")
        self.assert_written(("neg", ("abs", A)), "-(abs(a))")
        self.assert_written(("neg", ("not", A)), "-(not a)")

    def test_not(self):
        self.assert_written(("not", A), "not a")
        self.assert_written(("not", ("not", A)), "not (not a)")
        self.assert_written(("not", ("neg", A)), "not (-(a))")
        self.assert_written(("not", ("is missing", A)), "not is missing(a)")
        self.assert_written(("not", num(-3)), "not -3")

    def test_each_operator(self):
        for sign, word in SIGNS:
            self.assert_written((word, A, B), f"a {sign} b")
            self.assert_written((word, num(-1), num(-2)), f"-1 {sign} -2")
            self.assert_written((word, ("dim", "to"), ("value", "text", None)), f"@'to' {sign} missing text")
            self.assert_written((word, ("not", A), ("neg", B)), f"(not a) {sign} (-(b))")
            self.assert_written(("not", (word, A, B)), f"not (a {sign} b)")
            self.assert_written(("neg", (word, A, B)), f"-(a {sign} b)")
            self.assert_written(("abs", (word, A, B)), f"abs(a {sign} b)")

    def test_operands_of_operators(self):
        for sign, word in SIGNS:
            for other, inner in SIGNS:
                self.assert_written((word, (inner, A, B), C), f"(a {other} b) {sign} c")
                self.assert_written((word, A, (inner, B, C)), f"a {sign} (b {other} c)")
            for expression, text in FUNCTIONS:
                self.assert_written((word, expression, D), f"{text} {sign} d")
                self.assert_written((word, D, expression), f"d {sign} {text}")
        self.assert_written(("and", ("and", ("and", A, B), C), D), "((a and b) and c) and d")

    def test_deep_expressions(self):
        expression, text = A, "a"
        for _ in range(29):
            expression, text = ("not", expression), f"not ({text})"
        self.assert_written(expression, text.replace("not (a)", "not a"))


class QueryTest(Case):
    def assert_written(self, query, text):
        self.assert_same(self.assert_unchanged(print_query, query), text)
        self.assert_same(parse_query(text), query)

    def assert_step(self, word, *rest):
        *facts, text = rest
        self.assert_written((word, M, *facts), f"m | {text}")
        self.assert_written((word, (word, ("join", M, N), *facts), *facts), f"join(m; n) | {text} | {text}")

    def test_example(self):
        self.assert_written(("group", ("join", ("scan", "a"), ("scan", "box")), ("x",), (COUNT,)), "join(a; 'box') | group x: n = count()")

    def test_sources(self):
        self.assert_written(M, "m")
        for name in RESERVED:
            self.assert_written(("scan", name), f"'{name}'")

    def test_pairs(self):
        for word in ("join", "either", "across"):
            self.assert_written((word, M, N), f"{word}(m; n)")
            self.assert_written((word, (word, M, N), (word, N, M)), f"{word}({word}(m; n); {word}(n; m))")
            self.assert_written((word, ("ranked", ("ranked", M, "r"), "s"), ("only", N, ())), f"{word}(m | ranked r | ranked s; n | only)")
            self.assert_written(("only", (word, M, ("only", N, ())), ("a",)), f"{word}(m; n | only) | only a")

    def test_match(self):
        self.assert_written(("match", M, N, ()), "match(m; n) on")
        self.assert_written(("match", M, N, (("x", "y"),)), "match(m; n) on x = y")
        self.assert_written(("match", M, N, (("x", "on"), ("match", "z"))), "match(m; n) on x = 'on', 'match' = z")
        self.assert_written(("only", ("match", ("match", M, N, (("x", "y"),)), ("only", N, ()), ()), ()),
                            "match(match(m; n) on x = y; n | only) on | only")

    def test_steps_without_items(self):
        for word in ("box", "shift", "with", "only", "named", "turned", "filled"):
            self.assert_step(word, (), word)
        for word in ("group", "window", "regrid", "reform"):
            self.assert_step(word, (), (), f"{word}:")
            self.assert_step(word, (), (COUNT,), f"{word}: n = count()")
        self.assert_step("group", ("x",), (), "group x:")
        self.assert_step("sorted", (), "i", 3, "sorted as i limit 3")

    def test_steps_with_items(self):
        self.assert_step("box", (("x", 0, 4),), "box x 0 to 4")
        self.assert_step("box", (("x", -9999999, -1), ("to", 0, 9999999)), "box x -9999999 to -1, 'to' 0 to 9999999")
        self.assert_step("shift", (("x", 3),), "shift x by 3")
        self.assert_step("shift", (("by", -3), ("x", 0)), "shift 'by' by -3, x by 0")
        self.assert_step("keep", A, "keep a")
        self.assert_step("keep", ("gt", ("neg", A), num(-4)), "keep (-(a)) > -4")
        self.assert_step("keep", ("not", ("and", A, B)), "keep not (a and b)")
        self.assert_step("with", (("a", B),), "with a = b")
        self.assert_step("with", (("with", ("eq", A, B)), ("c", ("attr", "as"))), "with 'with' = a = b, c = 'as'")
        self.assert_step("only", ("a",), "only a")
        self.assert_step("only", ("a", "only", "b"), "only a, 'only', b")
        self.assert_step("named", (("a", "b"),), "named a as b")
        self.assert_step("named", (("as", "b"), ("c", "named")), "named 'as' as b, c as 'named'")
        self.assert_step("turned", ("x",), "turned x")
        self.assert_step("turned", ("x", "turned", "y"), "turned x, 'turned', y")
        self.assert_step("filled", (3,), "filled 3")
        self.assert_step("filled", (-3, "a\"\n", True, False, None, 10 ** 30 - 1, ""),
                         "filled -3, \"a\\\"\\n\", true, false, missing, " + "9" * 30 + ", \"\"")
        self.assert_step("ranked", "r", "ranked r")
        self.assert_step("ranked", "up", "ranked 'up'")
        self.assert_step("sorted", ((A, "up"),), "i", 3, "sorted a up as i limit 3")
        self.assert_step("sorted", ((("add", A, B), "down"), (("attr", "up"), "up")), "as", -3, "sorted a + b down, 'up' up as 'as' limit -3")

    def test_steps_with_aggregates(self):
        both = (("n", "count", ("or", A, B)), ("sum", "sum", None), ("to", "all", ("attr", "to")))
        told = "n = count(a or b), sum = sum(), 'to' = all('to')"
        self.assert_step("group", ("x", "group"), both, f"group x, 'group': {told}")
        self.assert_step("window", (("x", 1, 2), ("back", 0, -1)), both, f"window x back 1 ahead 2, 'back' back 0 ahead -1: {told}")
        self.assert_step("regrid", (("x", 2), ("by", -3)), both, f"regrid x by 2, 'by' by -3: {told}")
        self.assert_step("reform", (("a", -1, 4, 2), ("step", 0, 0, 1)), both, f"reform a -1 to 4 step 2, 'step' 0 to 0 step 1: {told}")
        for word in ("count", "known", "sum", "least", "greatest", "first", "all", "any"):
            self.assert_step("group", (), ((word, word, A),), f"group: {word} = {word}(a)")

    def test_long_queries(self):
        query = M
        for _ in range(90):
            query = ("only", query, ())
        self.assert_written(query, "m" + " | only" * 90)
        query, text = M, "m"
        for _ in range(39):
            query, text = ("join", query, N), f"join({text}; n)"
        self.assert_written(query, text)
        for _ in range(2000):
            query = ("only", query, ())
        self.assert_same(print_query(query), text + " | only" * 2000)


def some_expression(rolls, depth):
    """Returns an expression of any form, whatever the kinds are."""
    if depth == 0 or rolls.random() < 0.2:
        value = rolls.choice((("int", rolls.randint(-10 ** 9, 10 ** 9)), ("int", None), ("flag", True), ("flag", False), ("flag", None),
                              ("text", "a\"b\\\n"), ("text", ""), ("text", None)))
        return rolls.choice((("value", *value), ("attr", rolls.choice(NAMES)), ("dim", rolls.choice(NAMES))))
    words = rolls.choice((tuple([word for _, word in SIGNS]) + ("or else",), ("neg", "abs", "not", "length", "is missing"), ("if",)))
    parts = [some_expression(rolls, depth - 1) for _ in range({"neg": 1, "if": 3}.get(words[0], 2))]
    return (rolls.choice(words), *parts)


def some_items(rolls, item):
    return tuple([item() for _ in range(rolls.choice((0, 1, 1, 2, 3)))])


def some_facts(rolls, word):
    """Returns the facts of a step of any form."""
    def name():
        return rolls.choice(NAMES)

    def small():
        return rolls.choice((0, 1, -1, 12, -9999999, 9999999))

    def told():
        return some_expression(rolls, 2)

    aggregates = some_items(rolls, lambda: (name(), rolls.choice(("count", "sum", "any")), rolls.choice((None, told()))))
    first = {"box": lambda: (name(), small(), small()), "shift": lambda: (name(), small()), "with": lambda: (name(), told()),
             "only": name, "turned": name, "named": lambda: (name(), name()), "group": name, "regrid": lambda: (name(), small()),
             "window": lambda: (name(), small(), small()), "reform": lambda: (name(), small(), small(), small()),
             "filled": lambda: rolls.choice((3, -4, 10 ** 29, "a\n", "", True, False, None)),
             "sorted": lambda: (told(), rolls.choice(("up", "down")))}
    if word in ("keep", "ranked"):
        return (told() if word == "keep" else name(),)
    items = some_items(rolls, first[word])
    if word in ("group", "window", "regrid", "reform"):
        return (items, aggregates)
    return (items, name(), small()) if word == "sorted" else (items,)


def some_query(rolls, depth):
    """Returns a query of any form, whether it has a shape or not."""
    if depth == 0 or rolls.random() < 0.1:
        return ("scan", rolls.choice(NAMES))
    if rolls.random() < 0.3:
        pair = [some_query(rolls, depth - 1), some_query(rolls, depth - 1)]
        word = rolls.choice(("join", "either", "across", "match"))
        return (word, *pair) if word != "match" else (word, *pair, some_items(rolls, lambda: (rolls.choice(NAMES), rolls.choice(NAMES))))
    word = rolls.choice("box shift keep with only named group window regrid reform turned filled ranked sorted".split())
    return (word, some_query(rolls, depth - 1), *some_facts(rolls, word))


def with_blanks(rolls, text):
    """Returns a text with other blanks between its words."""
    places = [place for place, _, _ in split_words(text)] + [len(text)]
    words = [text[first:last].rstrip(" ") for first, last in zip(places, places[1:])]
    return rolls.choice(("", " ", "\n")) + "".join([word + rolls.choice((" ", "\n", "\t", " \t\n ")) for word in words])


class AgainTest(Case):
    def assert_again(self, rolls, parse, write, thing):
        text = self.assert_unchanged(write, thing)
        self.assert_same(parse(text), thing)
        self.assert_same(parse(with_blanks(rolls, text)), thing)
        self.assert_same(write(parse(text)), text)

    def test_expressions(self):
        rolls = random.Random(5)
        for turn in range(600):
            self.assert_again(rolls, parse_expression, print_expression, some_expression(rolls, turn % 5))

    def test_queries(self):
        rolls = random.Random(6)
        count = 0
        while count < 500:
            query = some_query(rolls, count % 5)
            if self.is_short(query):
                self.assert_again(rolls, parse_query, print_query, query)
                count += 1

    def is_short(self, query):
        """Returns True if a query has few words."""
        return len(str(query)) < 800

    def test_queries_that_have_a_shape(self):
        rolls = random.Random(7)
        for query in made.queries(300, 17):
            if self.is_short(query):
                self.assert_again(rolls, parse_query, print_query, query)
