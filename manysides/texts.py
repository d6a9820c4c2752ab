"""Texts as octets (chapter 01)."""

from manysides.errors import InvalidText

LINE_FEED = 10
SPACE = 32
PERCENT_SIGN = 37
TILDE = 126
# All characters of texts. They stand in the order of their codes, from the space on, so that a code tells
# the index of its character; but the line feed stands where the percent sign would.
CHARACTERS = " !\"#$\n&'()*+,-./0123456789:;<=>?@ABCDEFGHIJKLMNOPQRSTUVWXYZ[\\]^_`abcdefghijklmnopqrstuvwxyz{|}~"


def is_text(text):
    """Returns True if a string is a text, otherwise False."""
    return text.strip(CHARACTERS) == ""


def encode_text(text):
    """Returns the octets of a text."""
    return [ord(character) for character in text]


def decode_text(octets):
    """Returns the text of octets. Raises InvalidText."""
    for index, octet in enumerate(octets):
        if not is_code(octet):
            raise InvalidText(index)
    return "".join([character_of(octet) for octet in octets])


def is_code(octet):
    """Returns True if an octet is the code of a character of a text, otherwise False."""
    return octet == LINE_FEED or (SPACE <= octet <= TILDE and octet != PERCENT_SIGN)


def character_of(code):
    """Returns the character of a text with a code."""
    if code == LINE_FEED:
        return "\n"
    return CHARACTERS[code - SPACE]
