"""Points 22.2 and 22.3: queries and expressions of texts."""

from manysides.errors import InvalidWords
from manysides.expressions import kind_of
from manysides.parsing import parse_expression, parse_query
from manysides.tokens import RESERVED
from tests.helpers import Case

A, B, C, D = [("attr", name) for name in "abcd"]
X = ("dim", "x")
M, N = ("scan", "m"), ("scan", "n")


def num(n):
    return ("value", "int", n)


class ExpressionTest(Case):
    def assert_read(self, text, wanted):
        self.assert_same(parse_expression(text), wanted)

    def test_example(self):
        self.assert_read("a + 2 * @x > -3", ("gt", ("add", A, ("mul", num(2), X)), num(-3)))

    def test_values(self):
        for text, kind, value in (("0", "int", 0), ("007", "int", 7), ("9" * 30, "int", 10 ** 30 - 1), ("-5", "int", -5),
                                  ("- 5", "int", -5), ("-\n5", "int", -5), ("-" + "9" * 30, "int", 1 - 10 ** 30), ("-0", "int", 0),
                                  ("10000000", "int", 10 ** 7), ("true", "flag", True), ("false", "flag", False),
                                  ("\"\"", "text", ""), ("\"a\\n\\\"\\\\\"", "text", "a\n\"\\"), ("missing int", "int", None),
                                  ("missing flag", "flag", None), ("missing  text", "text", None)):
            self.assert_read(text, ("value", kind, value))
            self.assert_read(f" ( ({text}) ) ", ("value", kind, value))

    def test_long_strings(self):
        self.assert_read("\"" + "x" * 300 + "\"", ("value", "text", "x" * 300))

    def test_names(self):
        for text, name in (("a", "a"), ("count", "count"), ("up_", "up_"), ("Abs", "Abs"), ("'a'", "a"), ("_", "_")):
            self.assert_read(text, ("attr", name))
            self.assert_read(f"@{text}", ("dim", name))
            self.assert_read(f"@ {text}", ("dim", name))
        for name in RESERVED:
            self.assert_read(f"'{name}'", ("attr", name))
            self.assert_read(f"@'{name}'", ("dim", name))
            self.assert_read(f"'{name}' + '{name}'", ("add", ("attr", name), ("attr", name)))
            self.assert_error(InvalidWords, 1, parse_expression, f"@{name}")

    def test_functions(self):
        for text, wanted in (("abs(a)", ("abs", A)), ("length (a)", ("length", A)), ("is missing(a)", ("is missing", A)),
                             ("is\tmissing ( a )", ("is missing", A)), ("if(a, b, c)", ("if", A, B, C)),
                             ("orelse(a, b)", ("or else", A, B)), ("if(a or b, b = c, not d)",
                                                                  ("if", ("or", A, B), ("eq", B, C), ("not", D))),
                             ("orelse(if(a, b, c), abs(-d))", ("or else", ("if", A, B, C), ("abs", ("neg", D)))),
                             ("is missing(is missing(a))", ("is missing", ("is missing", A))),
                             ("is missing(missing text)", ("is missing", ("value", "text", None))),
                             ("(abs(a))", ("abs", A)), ("abs((a))", ("abs", A))):
            self.assert_read(text, wanted)

    def test_each_operator(self):
        for sign, word in (("or", "or"), ("and", "and"), ("=", "eq"), ("<>", "ne"), ("<", "lt"), ("<=", "le"), (">", "gt"), (">=", "ge"),
                           ("++", "joined"), ("+", "add"), ("-", "sub"), ("*", "mul"), ("/", "div"), ("mod", "mod")):
            self.assert_read(f"a {sign} b", (word, A, B))
            self.assert_read(f"'a'{sign}'b'", (word, A, B))
            self.assert_read(f"(a {sign} b)", (word, A, B))
            self.assert_read(f"a {sign} (b {sign} c)", (word, A, (word, B, C)))
            self.assert_read(f"(a {sign} b) {sign} (c {sign} d)", (word, (word, A, B), (word, C, D)))

    def test_from_left_to_right(self):
        for first, second in (("or", "or"), ("and", "and"), ("++", "joined"), ("+", "add"), ("-", "sub"), ("*", "mul"), ("/", "div"),
                              ("mod", "mod")):
            self.assert_read(f"a {first} b {first} c", (second, (second, A, B), C))
            self.assert_read(f"a {first} b {first} c {first} d", (second, (second, (second, A, B), C), D))
        self.assert_read("a - b + c - d", ("sub", ("add", ("sub", A, B), C), D))
        self.assert_read("a * b / c mod d", ("mod", ("div", ("mul", A, B), C), D))
        self.assert_read("a mod b * c", ("mul", ("mod", A, B), C))

    def test_each_level_against_the_next_one(self):
        levels = ((("or", "or"),), (("and", "and"),), (("=", "eq"), ("<>", "ne"), ("<", "lt"), ("<=", "le"), (">", "gt"), (">=", "ge")),
                  (("++", "joined"),), (("+", "add"), ("-", "sub")), (("*", "mul"), ("/", "div"), ("mod", "mod")))
        for at, looser in enumerate(levels):
            for tighter in levels[at + 1:]:
                for sign, word in looser:
                    for other, inner in tighter:
                        self.assert_read(f"a {sign} b {other} c", (word, A, (inner, B, C)))
                        self.assert_read(f"a {other} b {sign} c", (word, (inner, A, B), C))
                        self.assert_read(f"a {other} b {sign} c {other} d", (word, (inner, A, B), (inner, C, D)))
                        self.assert_read(f"(a {sign} b) {other} c", (inner, (word, A, B), C))
        self.assert_read("a or b and c = d ++ a + b * c", (
            "or", A, ("and", B, ("eq", C, ("joined", D, ("add", A, ("mul", B, C)))))))
        self.assert_read("a * b + c ++ d = a and b or c", (
            "or", ("and", ("eq", ("joined", ("add", ("mul", A, B), C), D), A), B), C))

    def test_not(self):
        self.assert_read("not a", ("not", A))
        self.assert_read("not not a", ("not", ("not", A)))
        self.assert_read("not a and b", ("and", ("not", A), B))
        self.assert_read("a and not b", ("and", A, ("not", B)))
        self.assert_read("not a or not b and not c", ("or", ("not", A), ("and", ("not", B), ("not", C))))
        self.assert_read("not a = b", ("not", ("eq", A, B)))
        self.assert_read("not a ++ b < c", ("not", ("lt", ("joined", A, B), C)))
        self.assert_read("(not a) = (not b)", ("eq", ("not", A), ("not", B)))
        self.assert_read("not (a and b)", ("not", ("and", A, B)))
        self.assert_read("if(not a, not b, not c)", ("if", ("not", A), ("not", B), ("not", C)))
        for text, place in (("a = not b", 4), ("a + not b", 4), ("- not b", 2), ("a ++ not b", 5), ("a * not b", 4),
                            ("a and b = not c", 10), ("not - not a", 6)):
            self.assert_error(InvalidWords, place, parse_expression, text)

    def test_negatives(self):
        self.assert_read("-a", ("neg", A))
        self.assert_read("- - a", ("neg", ("neg", A)))
        self.assert_read("--3", ("neg", num(-3)))
        self.assert_read("---3", ("neg", ("neg", num(-3))))
        self.assert_read("-(3)", ("neg", num(3)))
        self.assert_read("-(-3)", ("neg", num(-3)))
        self.assert_read("a - 3", ("sub", A, num(3)))
        self.assert_read("a-3", ("sub", A, num(3)))
        self.assert_read("a - -3", ("sub", A, num(-3)))
        self.assert_read("a - - 3", ("sub", A, num(-3)))
        self.assert_read("a--b", ("sub", A, ("neg", B)))
        self.assert_read("(a) - 3", ("sub", A, num(3)))
        self.assert_read("4 -3", ("sub", num(4), num(3)))
        self.assert_read("-4 -3", ("sub", num(-4), num(3)))
        self.assert_read("(-3)", num(-3))
        self.assert_read("a * -3 + -b", ("add", ("mul", A, num(-3)), ("neg", B)))
        self.assert_read("-a * b", ("mul", ("neg", A), B))
        self.assert_read("-a mod b", ("mod", ("neg", A), B))
        self.assert_read("-3 * 2", ("mul", num(-3), num(2)))
        self.assert_read("-abs(a)", ("neg", ("abs", A)))
        self.assert_read("-@x", ("neg", X))
        self.assert_read("-true", ("neg", ("value", "flag", True)))
        self.assert_read("if(-3, - a, -b - -4)", ("if", num(-3), ("neg", A), ("sub", ("neg", B), num(-4))))
        self.assert_read("not -a = -3", ("not", ("eq", ("neg", A), num(-3))))

    def test_comparisons_beside_one_another(self):
        for first in ("=", "<>", "<", "<=", ">", ">="):
            for second in ("=", "<>", "<", "<=", ">", ">="):
                text = f"a {first} b {second} c"
                self.assert_error(InvalidWords, 5 + len(first), parse_expression, text)
                self.assert_error(InvalidWords, 6 + len(first), parse_expression, f"({text})")
        self.assert_read("(a = b) = c", ("eq", ("eq", A, B), C))
        self.assert_read("a = (b = c)", ("eq", A, ("eq", B, C)))
        self.assert_read("a = b and c = d", ("and", ("eq", A, B), ("eq", C, D)))
        self.assert_read("a = abs(b = c)", ("eq", A, ("abs", ("eq", B, C))))
        self.assert_error(InvalidWords, 13, parse_expression, "a = b + -c * <")
        self.assert_error(InvalidWords, 12, parse_expression, "a = b * - c < d")

    def test_nothing_is_looked_at_but_the_words(self):
        for text in ("a + true", "not 3", "length(4)", "if(1, 2, \"a\")", "\"" + "x" * 201 + "\""):
            self.assertIsInstance(parse_expression(text), tuple)
        self.assert_same(kind_of(parse_expression("if(\"b\" < \"c\", -3, abs(-4) mod 3)"), None), "int")


class QueryTest(Case):
    def assert_read(self, text, wanted):
        self.assert_same(parse_query(text), wanted)

    def assert_step(self, text, word, *facts):
        self.assert_read(f"m | {text}", (word, M, *facts))
        self.assert_read(f"(m|{text} | {text})", (word, (word, M, *facts), *facts))

    def test_example(self):
        self.assert_read("a | box x 0 to 4 | only v, w", ("only", ("box", ("scan", "a"), (("x", 0, 4),)), ("v", "w")))

    def test_sources(self):
        for text in ("m", "'m'", "(m)", "((\t'm'\n))"):
            self.assert_read(text, M)
        for name in RESERVED:
            self.assert_read(f"'{name}'", ("scan", name))
            self.assertRaises(InvalidWords, parse_query, name)
        for name in ("count", "sum", "like", "boxes"):
            self.assert_read(name, ("scan", name))

    def test_pairs(self):
        for word in ("join", "either", "across"):
            self.assert_read(f"{word}(m; n)", (word, M, N))
            self.assert_read(f"{word} ( (m) ;(n) )", (word, M, N))
            self.assert_read(f"{word}({word}(m; n); {word}(n; m))", (word, (word, M, N), (word, N, M)))
            self.assert_read(f"{word}(m | ranked r; n | ranked s) | ranked t",
                             ("ranked", (word, ("ranked", M, "r"), ("ranked", N, "s")), "t"))

    def test_match(self):
        self.assert_read("match(m; n) on", ("match", M, N, ()))
        self.assert_read("match(m; n) on x = y", ("match", M, N, (("x", "y"),)))
        self.assert_read("match(m; n) on x=y, 'on' = 'box' | only", ("only", ("match", M, N, (("x", "y"), ("on", "box"))), ()))
        self.assert_read("match(match(m; n) on x = y; match(n; m) on) on a = b, c = d",
                         ("match", ("match", M, N, (("x", "y"),)), ("match", N, M, ()), (("a", "b"), ("c", "d"))))
        self.assert_read("(match(m; n) on) | only", ("only", ("match", M, N, ()), ()))

    def test_steps_with_items(self):
        self.assert_step("box x 0 to 4", "box", (("x", 0, 4),))
        self.assert_step("box x -9999999 to 9999999, 'to' - 3 to -0, x 1 to 1", "box",
                         (("x", -9999999, 9999999), ("to", -3, 0), ("x", 1, 1)))
        self.assert_step("shift x by 3", "shift", (("x", 3),))
        self.assert_step("shift x by -3, 'by' by 00000004", "shift", (("x", -3), ("by", 4)))
        self.assert_step("keep a", "keep", A)
        self.assert_step("keep not a or 10000000 < b", "keep", ("or", ("not", A), ("lt", num(10 ** 7), B)))
        self.assert_step("with a = b", "with", (("a", B),))
        self.assert_step("with a = b = c, 'with' = -3, a = (b)", "with", (("a", ("eq", B, C)), ("with", num(-3)), ("a", B)))
        self.assert_step("only a", "only", ("a",))
        self.assert_step("only a, 'only', b", "only", ("a", "only", "b"))
        self.assert_step("named a as b", "named", (("a", "b"),))
        self.assert_step("named a as b, 'as' as 'named'", "named", (("a", "b"), ("as", "named")))
        self.assert_step("turned x", "turned", ("x",))
        self.assert_step("turned x, 'up', y", "turned", ("x", "up", "y"))
        self.assert_step("filled 3", "filled", (3,))
        self.assert_step("filled -3, - 10000000, \"a\\nb\", true, false, missing, 007", "filled",
                         (-3, -10 ** 7, "a\nb", True, False, None, 7))
        self.assert_step("ranked r", "ranked", "r")
        self.assert_step("ranked 'ranked'", "ranked", "ranked")
        self.assert_step("sorted a up as i limit 3", "sorted", ((A, "up"),), "i", 3)
        self.assert_step("sorted a + b down, -@x up, not c down as 'as' limit -3", "sorted",
                         ((("add", A, B), "down"), (("neg", X), "up"), (("not", C), "down")), "as", -3)

    def test_keys_begin_as_expressions_do(self):
        for text in ("a", "'up'", "@x", "3", "-3", "- a", "\"b\"", "true", "false", "missing int", "(a)", "abs(a)", "length(a)",
                     "is missing(a)", "if(a, b, c)", "orelse(a, b)", "not a"):
            self.assert_step(f"sorted {text} up as i limit 3", "sorted", ((parse_expression(text), "up"),), "i", 3)
            self.assert_step(f"sorted a down, {text} up as i limit 3", "sorted", ((A, "down"), (parse_expression(text), "up")), "i", 3)

    def test_steps_with_aggregates(self):
        count, total = ("n", "count", None), ("s", "sum", ("add", A, B))
        told = "n = count(), s = sum(a + b)"
        self.assert_step(f"group x: {told}", "group", ("x",), (count, total))
        self.assert_step("group x, 'group':n=count()", "group", ("x", "group"), (count,))
        self.assert_step(f"window x back 1 ahead 2: {told}", "window", (("x", 1, 2),), (count, total))
        self.assert_step("window x back 0 ahead 9999999, 'back' back -1 ahead -2: n = count()", "window",
                         (("x", 0, 9999999), ("back", -1, -2)), (count,))
        self.assert_step(f"regrid x by 2: {told}", "regrid", (("x", 2),), (count, total))
        self.assert_step("regrid x by 2, y by -3: n = count()", "regrid", (("x", 2), ("y", -3)), (count,))
        self.assert_step(f"reform a -1 to 4 step 2: {told}", "reform", (("a", -1, 4, 2),), (count, total))
        self.assert_step("reform a -1 to 4 step 2, 'step' 0 to 0 step 1: n = count()", "reform",
                         (("a", -1, 4, 2), ("step", 0, 0, 1)), (count,))

    def test_each_aggregate(self):
        for word in ("count", "known", "sum", "least", "greatest", "first", "all", "any"):
            self.assert_step(f"group: a = {word}(b)", "group", (), (("a", word, B),))
            self.assert_step(f"group: a = {word}()", "group", (), (("a", word, None),))
            self.assert_step(f"group: {word} = {word} ( {word} ), 'sum' = {word}(-3)", "group", (),
                             ((word, word, ("attr", word)), ("sum", word, num(-3))))
            self.assert_error(InvalidWords, 15, parse_query, f"m | group: a = '{word}'(b)")

    def test_steps_without_items(self):
        for word in ("box", "shift", "with", "only", "named", "turned", "filled"):
            self.assert_step(word, word, ())
        for word in ("group", "window", "regrid", "reform"):
            self.assert_step(f"{word}:", word, (), ())
            self.assert_step(f"{word} : n = count()", word, (), (("n", "count", None),))
        self.assert_step("group x:", "group", ("x",), ())
        self.assert_step("sorted as i limit 0", "sorted", (), "i", 0)

    def test_queries_inside_each_other(self):
        text = "join((m | keep a) | box; ((either(m; n | only a))) | shift x by 1) | group: | only"
        self.assert_read(text, ("only", ("group", ("join", ("box", ("keep", M, A), ()),
                                                   ("shift", ("either", M, ("only", N, ("a",))), (("x", 1),))), (), ()), ()))

    def test_deep_queries(self):
        self.assert_read("(" * 99 + "m" + ")" * 99, M)
        self.assert_error(InvalidWords, 199, parse_query, "(" * 199)
        self.assert_error(InvalidWords, 200, parse_query, "(" * 199 + "m")
        query = M
        for _ in range(39):
            query = ("join", query, N)
        self.assert_read("join(" * 39 + "m" + "; n)" * 39, query)
        steps = " | only" * 99
        found = parse_query(f"m{steps}")
        for _ in range(99):
            self.assert_same([found[0], found[2]], ["only", ()])
            found = found[1]
        self.assert_same(found, M)
