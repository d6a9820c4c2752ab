"""Points 01.1 and 01.2."""

from manysides.errors import InvalidText
from manysides.texts import decode_text, encode_text, is_text
from tests.helpers import Case

CODES = [10] + [code for code in range(32, 127) if code != 37]


class TextsTest(Case):
    def test_examples(self):
        self.assert_same([encode_text("a~\n"), decode_text([72, 105])], [[97, 126, 10], "Hi"])
        self.assert_error(InvalidText, 1, decode_text, [97, 9])

    def test_there_are_95_characters(self):
        self.assertEqual(len(CODES), 95)
        for code in range(400):
            self.assert_same(is_text(chr(code)), code in CODES)

    def test_each_octet(self):
        for code in range(256):
            if code in CODES:
                self.assert_same(decode_text([code]), chr(code))
                self.assert_same(encode_text(chr(code)), [code])
            else:
                self.assert_error(InvalidText, 0, decode_text, [code])

    def test_whole_texts(self):
        text = "".join([chr(code) for code in CODES])
        self.assertTrue(is_text(text))
        self.assert_same(encode_text(text), CODES)
        self.assert_same(decode_text(CODES), text)

    def test_empty(self):
        self.assert_same([is_text(""), encode_text(""), decode_text([])], [True, [], ""])

    def test_long_texts_are_texts(self):
        self.assertTrue(is_text("ab" * 1000))
        self.assert_same(decode_text(encode_text("ab" * 1000)), "ab" * 1000)

    def test_a_wrong_character_anywhere(self):
        for wrong in ("%", "\t", "\r", "\x00", "\x1f", "\x7f", "\x80", "\xe9", "\u20ac", "\U0001f600"):
            for text in (wrong, wrong + "ab", "a" + wrong + "b", "ab" + wrong, wrong + "a" + wrong):
                self.assert_same(is_text(text), False)

    def test_the_first_wrong_octet_counts(self):
        self.assert_error(InvalidText, 0, decode_text, [37, 9])
        self.assert_error(InvalidText, 2, decode_text, [10, 32, 255, 65, 37])
        self.assert_error(InvalidText, 3, decode_text, [126, 36, 38, 127])
        self.assert_error(InvalidText, 1, decode_text, [10, 11])

    def test_nothing_is_changed_and_lists_are_new(self):
        self.assert_unchanged(decode_text, [72, 105])
        first = encode_text("ab")
        first.append(0)
        self.assert_same(encode_text("ab"), [97, 98])
