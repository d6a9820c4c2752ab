"""Point 22.4: the faults of texts and their places."""

import random

from manysides.errors import InvalidWords
from manysides.parsing import parse_expression, parse_query
from manysides.tokens import RESERVED, split_words
from tests import grammar
from tests.helpers import Case

GOOD = [
    "m", "(m)", "join(m; n)", "match(m; n) on x = y, z = w", "m | box x 0 to 4, y -3 to - 2", "m | shift x by -3",
    "m | keep a + 2 * -b > 3 and not c", "m | with a = b, c = if(a, b, c)", "m | only a, b", "m | named a as b, c as d",
    "m | group x, y: n = count(), s = sum(a ++ \"b\")", "m | window x back 1 ahead 2: n = known(a)", "m | regrid x by 2: a = all(c)",
    "m | reform a 0 to 3 step 2, b 1 to 2 step 1: n = count(a)", "m | turned x, y", "m | filled -3, \"a\", true, missing",
    "m | ranked r | ranked s", "m | sorted a up, -@x down as i limit 3", "across((m | only a); either(n; m) | box) | box | only",
    "m | keep is missing(orelse(a, missing int)) or length(@x) = abs(-3) mod (4)",
]


class FaultsTest(Case):
    def assert_wrong(self, place, text):
        self.assert_error(InvalidWords, place, parse_query, text)

    def assert_wrong_expression(self, place, text):
        self.assert_error(InvalidWords, place, parse_expression, text)

    def test_each_kind_of_word_at_a_wrong_place(self):
        for text, place in (("box", 0), ("3", 0), ("\"m\"", 0), ("|", 0), ("m n", 2), ("m |", 3), ("m | m", 4), ("m | 'box'", 4),
                            ("m | box x", 9), ("m | box x 0", 11), ("m | box x 0 4", 12), ("m | box x 0 to", 14), ("m | box x 0 to x", 15),
                            ("m | box x - to 3", 12), ("m | box x 0 to 4,", 17), ("m | box x 0 to 4, | only", 18), ("m | box , x", 8),
                            ("m | shift x 3", 12), ("m | keep", 8), ("m | keep | only", 9), ("m | keep a b", 11), ("m | with a", 10),
                            ("m | with a b", 11), ("m | with a =", 12), ("m | with 3 = 4", 9), ("m | only a b", 11), ("m | only a,", 11),
                            ("m | only up", 9), ("m | named a b", 12), ("m | named a as as", 15), ("m | group x n = count()", 12),
                            ("m | group x", 11), ("m | group x: n", 14), ("m | group x: n count()", 15), ("m | group x: n = number()", 17),
                            ("m | group x: n = count", 22), ("m | group x: n = count a", 23), ("m | group x: n = count(", 23),
                            ("m | group x: n = count(a", 24), ("m | group x: n = count(a b)", 25), ("m | group x: n = count(),", 25),
                            ("m | group x: n = count(a, b)", 24), ("m | window x back 1", 19), ("m | window x ahead 1 back 2:", 13),
                            ("m | window x back 1 ahead a:", 26), ("m | regrid x by: n = count()", 15), ("m | reform a 0 to 3: n = count()", 19),
                            ("m | reform a 0 to 3 by 2:", 20), ("m | filled a", 11), ("m | filled - true", 13), ("m | filled 3,", 13),
                            ("m | filled missing int", 19), ("m | ranked", 10), ("m | ranked 3", 11), ("m | ranked rank by", 16),
                            ("m | sorted a as i limit 3", 13), ("m | sorted a up b as i limit 3", 16), ("m | sorted up as i limit 3", 11),
                            ("m | sorted a up, as i limit 3", 17), ("m | sorted a up i limit 3", 16), ("m | sorted a up as i", 20),
                            ("m | sorted a up as i 3", 21), ("m | sorted a up as i limit a", 27), ("m | sorted", 10)):
            self.assert_wrong(place, text)

    def test_sources(self):
        for text, place in (("", 0), ("  ", 2), ("(", 1), ("()", 1), ("(m", 2), ("(m;", 2), ("m)", 1), ("(m))", 3), ("join", 4), ("join m", 5),
                            ("join(", 5), ("join(m", 6), ("join(m)", 6), ("join(m, n)", 6), ("join(m;", 7), ("join(m;)", 7), ("join(m; n", 9),
                            ("join(m; n;", 9), ("join(m; n) on", 11), ("join((m; n))", 7), ("match(m; n)", 11), ("match(m; n) | only", 12),
                            ("match(m; n) on x", 16), ("match(m; n) on x =", 18), ("match(m; n) on x y", 17), ("match(m; n) on x = y,", 21),
                            ("match(m; n) on = y", 15), ("on", 0), ("m | join(m; n)", 4), ("m | (n)", 4), ("m; n", 1), ("'join'(m; n)", 6)):
            self.assert_wrong(place, text)

    def test_expressions(self):
        for text, place in (("", 0), (" ", 1), ("a b", 2), ("a +", 3), ("a + * b", 4), ("+ a", 0), ("= a", 0), ("not", 3), ("-", 1), ("- )", 2),
                            ("(a", 2), ("(a b)", 3), ("a)", 1), ("()", 1), ("(a, b)", 2), ("abs", 3), ("abs a", 4), ("abs()", 4),
                            ("abs(a, b)", 5), ("length", 6), ("is", 2), ("is a", 3), ("is missing", 10), ("is missing a", 11),
                            ("is missing(a, b)", 12), ("is not", 3), ("if", 2), ("if(a)", 4), ("if(a, b)", 7), ("if(a, b, c, d)", 10),
                            ("if(a; b; c)", 4), ("orelse(a)", 8), ("orelse(a, b, c)", 11), ("orelse(, b)", 7), ("missing", 7),
                            ("missing a", 8), ("missing 'int'", 8), ("missing (int)", 8), ("@", 1), ("@3", 1), ("@@x", 1), ("@abs", 1),
                            ("up", 0), ("int", 0), ("a up", 2), ("a and", 5), ("a and or b", 6), ("a | b", 2), ("a \"b\"", 2), ("3 4", 2),
                            ("true false", 5), ("a mod", 5), ("mod", 0), ("a not b", 2), ("a is missing", 2), ("count(a)", 5),
                            ("a, b", 1), ("a;", 1), ("'abs'(a)", 5), ("a ++ ++ b", 5), ("a +++ b", 4), ("a <= > b", 5)):
            self.assert_wrong_expression(place, text)

    def test_reserved_names_in_place_of_names(self):
        for name in RESERVED:
            for text in ("m | ranked ", "m | only a, ", "m | with a = b, ", "m | named a as ", "match(m; n) on a = "):
                self.assert_wrong(len(text), f"{text}{name}")
            self.assert_wrong(11, f"m | group: {name} = count()")

    def test_numbers_that_are_too_great(self):
        for before, behind in (("box x ", " to 3"), ("box x 1 to ", ""), ("shift x by ", ""), ("window x back ", " ahead 2:"),
                               ("window x back 1 ahead ", ":"), ("regrid x by ", ":"), ("reform x ", " to 4 step 1:"),
                               ("reform x 1 to ", " step 1:"), ("reform x 1 to 2 step ", ":"), ("sorted a up as i limit ", "")):
            for sign in ("", "-", "- "):
                self.assertIsInstance(parse_query(f"m | {before}{sign}9999999{behind}"), tuple)
                self.assertIsInstance(parse_query(f"m | {before}{sign}0009999999{behind}"), tuple)
                for number in ("10000000", "0010000000", "9" * 30):
                    self.assert_wrong(4 + len(before) + len(sign), f"m | {before}{sign}{number}{behind}")
                    self.assert_wrong(4 + len(before) + len(sign), f"m | {before}{sign}{number} )")
        for text in ("keep 10000000 > -" + "9" * 30, "with a = 10000000", "filled 10000000, -10000000", "group: a = sum(10000000)",
                     "sorted 10000000 up as i limit 3"):
            self.assertIsInstance(parse_query(f"m | {text}"), tuple)

    def test_a_number_that_is_too_great_behind_another_fault(self):
        self.assert_wrong(10, "m | box x to 10000000")
        self.assert_wrong(12, "m | shift x 3 by 10000000")
        self.assert_wrong(12, "m | box x - - 10000000 to 2")

    def test_words_before_rules(self):
        self.assert_wrong(12, "m | | n ; ; $")
        self.assert_wrong(400, "| " * 201)
        self.assert_wrong(398, "m " * 199 + "'")
        self.assert_wrong_expression(4, "+ + ?")
        self.assert_wrong_expression(7, "10 10  \"a")
        self.assert_wrong(0, "| " * 200)

    def test_the_number_of_words(self):
        self.assertIsInstance(parse_query("m" + " | only" * 99), tuple)
        self.assert_wrong(6 + 7 * 99, "m" + " | only" * 99 + "    a, b")
        self.assertIsInstance(parse_query("m | only " + "a, " * 98 + "a"), tuple)
        self.assert_wrong(9 + 3 * 98 + 1, "m | only " + "a, " * 98 + "a, a")
        self.assert_wrong(9 + 3 * 98 + 1, "m | only " + "a, " * 98 + "a,")


class DepthTest(Case):
    def assert_deep(self, before, inner, behind, many):
        """So many expressions around an inner one are 30 deep, and one more is too deep."""
        text = before * many + inner + behind * many
        self.assertIsInstance(parse_expression(text), tuple)
        self.assertIsInstance(parse_query(f"m | keep {text} | only"), tuple)
        text = before * (many + 1) + inner + behind * (many + 1)
        self.assert_error(InvalidWords, 0, parse_expression, text)
        self.assert_error(InvalidWords, 3, parse_expression, f" \t {text}")
        self.assert_error(InvalidWords, 9, parse_query, f"m | keep {text} | only")

    def test_each_form(self):
        for before, inner, behind in (("not ", "a", ""), ("- ", "a", ""), ("abs(", "@x", ")"), ("-(", "3", ")"), ("length(", "\"a\"", ")"),
                                      ("is missing(", "true", ")"), ("a + (", "b", ")"), ("(", "b", ") * a"), ("a and (", "b", ")"),
                                      ("((", "a", ") + b)"), ("orelse(", "a", ",b)"), ("orelse(b, ", "missing int", ")")):
            self.assert_deep(before, inner, behind, 29)
        for before, behind in (("if(a, ", ", c)"), ("if(", ", a, c)"), ("if(a, b, ", ")")):
            self.assert_deep(before, "not " * 19 + "b", behind, 10)

    def test_operators_from_left_to_right(self):
        for sign in ("+", "-", "*", "and", "or", "++", "mod"):
            self.assert_deep("", "a", f" {sign} a", 29)

    def test_brackets_do_not_count(self):
        text = "(" * 50 + "not " * 29 + "a" + ")" * 50
        self.assertIsInstance(parse_expression(text), tuple)
        self.assert_error(InvalidWords, 0, parse_expression, "(" * 50 + "not " * 30 + "a" + ")" * 50)
        self.assert_error(InvalidWords, 9, parse_query, "m | keep (" + "not " * 30 + "a)")
        self.assertIsInstance(parse_expression("-3 * (" + "-" * 28 + "a)"), tuple)
        self.assertIsInstance(parse_expression("-" * 29 + "-3"), tuple)
        self.assert_error(InvalidWords, 0, parse_expression, "-" * 30 + "-3")

    def test_the_first_word_of_the_outermost_expression(self):
        deep = "not " * 29 + "a"
        self.assert_error(InvalidWords, 0, parse_expression, f"b or {deep}")
        self.assert_error(InvalidWords, 0, parse_expression, f"if(b, c, {deep})")
        for text, place in (("m | with a = b, c = ", 20), ("m | sorted a up, ", 17), ("m | group x: n = count(), s = sum(", 34),
                            ("join(m | keep ", 14), ("m | keep b | keep ", 18)):
            behind = {"m | sorted a up, ": " up as i limit 3", "m | group x: n = count(), s = sum(": ")", "join(m | keep ": "; n)"}
            self.assertIsInstance(parse_query(f"{text}{deep}{behind.get(text, '')}"), tuple)
            self.assert_error(InvalidWords, place, parse_query, f"{text}not {deep}{behind.get(text, '')}")
            self.assert_error(InvalidWords, place, parse_query, f"{text}b or {deep}{behind.get(text, '')}")

    def test_it_is_found_when_the_expression_is_complete(self):
        deep = "not " * 30 + "a"
        self.assert_error(InvalidWords, 9, parse_query, f"m | keep {deep} )")
        self.assert_error(InvalidWords, 9, parse_query, f"m | keep {deep} b")
        self.assert_error(InvalidWords, 9, parse_query, f"m | keep {deep} up")
        self.assert_error(InvalidWords, 11, parse_query, f"m | sorted {deep} as i limit 3")
        self.assert_error(InvalidWords, 0, parse_expression, f"{deep} b")
        self.assert_error(InvalidWords, 0, parse_expression, f"{deep} ,")
        # Behind these words the expression is not complete.
        self.assert_error(InvalidWords, len(deep) + 3, parse_expression, f"{deep} + )")
        self.assert_error(InvalidWords, len(deep) + 4, parse_expression, f"{deep} or ")
        self.assert_error(InvalidWords, len(deep) + 1, parse_expression, f"({deep}")
        self.assert_error(InvalidWords, len(deep) + 2, parse_expression, f"({deep} b)")
        self.assert_error(InvalidWords, 120, parse_expression, "not " * 30)
        self.assert_error(InvalidWords, len(deep) + 10, parse_query, f"m | keep ({deep}")

    def test_which_fault_comes_first(self):
        deep = "not " * 30 + "a"
        self.assert_error(InvalidWords, 4, parse_query, f"m | m | keep {deep}")
        self.assert_error(InvalidWords, 13, parse_query, f"m | with a = {deep}, b = {deep}")
        self.assert_error(InvalidWords, 16, parse_query, f"m | with a = b, = {deep}")
        self.assert_error(InvalidWords, 10 + len(deep), parse_query, f"m | keep {deep} $")
        self.assert_error(InvalidWords, 9, parse_query, f"m | keep {deep} | box x 10000000 to 3")
        self.assert_error(InvalidWords, 10, parse_query, f"m | box x 10000000 to 3 | keep {deep}")


class EndsTest(Case):
    def test_texts_that_end_too_early(self):
        for text in GOOD:
            self.assertIsInstance(parse_query(text), tuple)
            words = split_words(text)
            for place, _, _ in words[1:]:
                for cut in (text[:place], text[:place].rstrip(), text[:place] + " \n"):
                    wanted = grammar.first_fault(cut, "Query")
                    if wanted is None:
                        self.assertIsInstance(parse_query(cut), tuple)
                    else:
                        self.assert_same(wanted, len(cut))
                        self.assert_error(InvalidWords, len(cut), parse_query, cut)


class GrammarTest(Case):
    """Texts with and without faults, against the rules of the document kept as a grammar."""

    def assert_as_told(self, text, start):
        parse = parse_query if start == "Query" else parse_expression
        wanted = grammar.first_fault(text, start)
        if wanted is None:
            self.assertIsInstance(parse(text), tuple)
        else:
            self.assert_error(InvalidWords, wanted, parse, text)
        return wanted is None

    def test_texts(self):
        rolls = random.Random(12)
        good = 0
        for turn in range(2500):
            start = rolls.choice(("Query", "Query", "E1"))
            words = grammar.some_words(rolls, start, rolls.choice((4, 6, 8, 11)))
            if len(words) > 40:
                continue
            self.assertTrue(self.assert_as_told(" ".join(words), start))
            others = [word for _, _, word in split_words(rolls.choice(GOOD))]
            for _ in range(rolls.choice((1, 1, 1, 2))):
                at = rolls.randrange(len(words) + 1)
                new = rolls.choice([str(other) for other in others] + ["(", ")", ",", "|", "-", "=", "not", "a", "3", ":", ";", "on"])
                deed = rolls.choice(("put", "take", "change"))
                words[at:at + (deed != "put")] = [] if deed == "take" else [new if new else "\"\""]
            good += self.assert_as_told(" ".join(words), start)
        self.assertGreater(good, 100)
