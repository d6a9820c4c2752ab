"""Point 22.1, and the first faults of point 22.4: the words of texts."""

from manysides.errors import InvalidWords
from manysides.tokens import RESERVED, split_words
from tests.helpers import Case

NAMES = """abs across ahead and as back box by down either false filled group if is join keep length limit match missing mod
    named not on only or orelse ranked reform regrid shift sorted step to true turned up window with int flag text"""
SIGNS = "( ) , ; : | = <> < <= > >= + ++ - * / @".split()
LONGEST = "a" * 30


class WordsTest(Case):
    def assert_words(self, text, *wanted):
        self.assert_same(split_words(text), list(wanted))

    def assert_wrong(self, place, text):
        self.assert_error(InvalidWords, place, split_words, text)

    def test_no_words(self):
        for text in ("", " ", " \t\n \n\t"):
            self.assert_words(text)

    def test_names(self):
        for name in ("a", "Z", "_", "x1", "_1", "__", "ab_Cd9", "count", LONGEST, "_" * 30, "a" + "9" * 29):
            self.assert_words(name, (0, "name", name))
            self.assert_words(f" {name}\n", (1, "name", name))

    def test_reserved_names(self):
        self.assertIsInstance(RESERVED, tuple)
        self.assertEqual(sorted(RESERVED), sorted(NAMES.split()))
        for name in NAMES.split():
            self.assert_words(name, (0, "name", name))
            self.assert_words(f"'{name}'", (0, "quoted", name))

    def test_quoted_names(self):
        for name in ("a", "_", "x1", LONGEST):
            self.assert_words(f"'{name}'", (0, "quoted", name))
        self.assert_words("a'b''c'd", (0, "name", "a"), (1, "quoted", "b"), (4, "quoted", "c"), (7, "name", "d"))

    def test_quoted_names_that_are_none(self):
        for inner in ("", "1", "1a", " a", "a ", "a b", "a-b", "a" * 31, "\n", "\"", "a.b", "\\n", "a\tb"):
            self.assert_wrong(2, f"b '{inner}' c")
        for inner in ("", "a", "a b", "a\n"):
            self.assert_wrong(2, f"b '{inner}")

    def test_names_that_are_longer(self):
        for name in ("a" * 31, "_" * 31, "a" + "0" * 30, "a" * 300):
            self.assert_wrong(3, f"a, {name} b")
        self.assert_words(f"1{LONGEST}", (0, "number", 1), (1, "name", LONGEST))

    def test_numbers(self):
        for text, number in (("0", 0), ("7", 7), ("10", 10), ("007", 7), ("0" * 30, 0), ("0" * 29 + "1", 1), ("9" * 30, 10 ** 30 - 1),
                             ("1" + "0" * 29, 10 ** 29), ("123456789", 123456789)):
            self.assert_words(text, (0, "number", number))
        self.assert_words("12ab3", (0, "number", 12), (2, "name", "ab3"))
        self.assert_words("1'a'2\"b\"3", (0, "number", 1), (1, "quoted", "a"), (4, "number", 2), (5, "string", "b"),
                          (8, "number", 3))

    def test_numbers_with_more_digits(self):
        for digits in ("9" * 31, "0" * 31, "0" * 30 + "1", "1" * 100):
            self.assert_wrong(2, f"a {digits}")
            self.assert_wrong(1, f"-{digits}")

    def test_strings(self):
        plain = "".join([chr(code) for code in range(32, 127) if chr(code) not in "%\"\\"])
        for inner, text in (("", ""), ("a", "a"), (plain, plain), ("''", "''"), ("x" * 1000, "x" * 1000), ("\\\"", "\""), ("\\\\", "\\"),
                            ("\\n", "\n"), ("\\\\n", "\\n"), ("\\\\\\n", "\\\n"), ("a\\\"b\\\\c\\nd", "a\"b\\c\nd"), (" a ", " a ")):
            self.assert_words(f"\"{inner}\"", (0, "string", text))
            self.assert_words(f"a\"{inner}\"1", (0, "name", "a"), (1, "string", text), (len(inner) + 3, "number", 1))
        self.assert_words("\"a\"\"b\"", (0, "string", "a"), (3, "string", "b"))

    def test_strings_that_are_none(self):
        for inner in ("\n", "a\nb", "\t", "a\t", "%", "a%b", "\\t", "\\a", "\\'", "\\N", "\\ ", "\\0", "\\\n", "\x7f", "\x1f", "\r",
                      "\x00", "\xe4", "\u20ac", "a\\x41"):
            self.assert_wrong(2, f"a \"{inner}\" b")
        for inner in ("", "a", "a b", "\\\"", "a\\\\\\\"", "\\"):
            self.assert_wrong(2, f"a \"{inner}")

    def test_signs(self):
        for sign in SIGNS:
            self.assert_words(sign, (0, "sign", sign))
            self.assert_words(f"a{sign}b", (0, "name", "a"), (1, "sign", sign), (1 + len(sign), "name", "b"))

    def test_the_longest_sign_counts(self):
        for text, signs in (("<>=", "<> ="), ("<=>", "<= >"), ("<<>", "< <>"), (">=", ">="), ("=>", "= >"), ("><", "> <"), (">>=", "> >="),
                            ("+++", "++ +"), ("++++", "++ ++"), ("--", "- -"), ("==", "= ="), ("<<", "< <"), ("||", "| |"),
                            ("< =", "< ="), ("+ +", "+ +"), ("< >", "< >"), ("<\n>", "< >")):
            self.assert_same([word for _, _, word in split_words(text)], signs.split())

    def test_what_begins_no_word(self):
        for character in "!#$%&.?[\\]^`{}~\r\x0b\x0c\x00\x7f\xa0\u00e9\u0661\u20ac":
            self.assert_wrong(0, character)
            self.assert_wrong(3, f"a, {character} b")
            self.assert_wrong(1, f"a{character}")
            self.assert_wrong(2, f"12{character}")

    def test_blanks(self):
        self.assert_words("a b\tc\nd \t\n e", (0, "name", "a"), (2, "name", "b"), (4, "name", "c"), (6, "name", "d"), (11, "name", "e"))
        self.assert_words("- 3", (0, "sign", "-"), (2, "number", 3))

    def test_words_that_touch(self):
        self.assert_words("a+2*@x>-3", (0, "name", "a"), (1, "sign", "+"), (2, "number", 2), (3, "sign", "*"), (4, "sign", "@"),
                          (5, "name", "x"), (6, "sign", ">"), (7, "sign", "-"), (8, "number", 3))

    def test_the_number_of_words(self):
        self.assert_same(len(split_words("a " * 200)), 200)
        self.assert_same(len(split_words("(" * 200)), 200)
        self.assert_wrong(400, "a " * 201)
        self.assert_wrong(200, "(" * 300)
        self.assert_wrong(402, "a " * 200 + "  \"b\"  c d")

    def test_which_fault_comes_first(self):
        self.assert_wrong(2, "a $ " + "b " * 300)
        self.assert_wrong(400, "b " * 201 + "$")
        self.assert_wrong(398, "b " * 199 + "$ b b")
        self.assert_wrong(400, "b " * 200 + "$ b")
        self.assert_wrong(0, "\"a % $")
        self.assert_wrong(4, "a b $ \"%\" '")
        self.assert_wrong(2, f"a {'9' * 31} $")

    def test_the_list_is_a_new_one(self):
        split_words("a b").clear()
        self.assert_same(len(split_words("a b")), 2)
