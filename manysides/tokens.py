"""The words of texts of queries and expressions (point 22.1)."""

from manysides.errors import InvalidWords
from manysides.shapes import DIGITS, LONGEST_NAME, NAME_CHARACTERS, is_simple_name
from manysides.texts import is_text

RESERVED = ("abs", "across", "ahead", "and", "as", "back", "box", "by", "down", "either", "false", "filled", "group",
            "if", "is", "join", "keep", "length", "limit", "match", "missing", "mod", "named", "not", "on", "only",
            "or", "orelse", "ranked", "reform", "regrid", "shift", "sorted", "step", "to", "true", "turned", "up",
            "window", "with", "int", "flag", "text")
BLANKS = " \t\n"
# A sign stands before those with which it begins.
SIGNS = ("<>", "<=", ">=", "++", "(", ")", ",", ";", ":", "|", "=", "<", ">", "+", "-", "*", "/", "@")
ESCAPED = {"\"": "\"", "\\": "\\", "n": "\n"}
MOST_WORDS = 200
MOST_DIGITS = 30


def split_words(text):
    """Returns the list of the words of a text, tuples (place, kind, word). Raises InvalidWords."""
    words = []
    at = 0
    while at < len(text):
        if text[at] in BLANKS:
            at += 1
        else:
            if len(words) == MOST_WORDS:
                raise InvalidWords(at)
            kind, word, end = word_at(text, at)
            words.append((at, kind, word))
            at = end
    return words


def word_at(text, first):
    """Returns the kind of the word that begins at a place, the word, and the place behind it. Raises InvalidWords."""
    character = text[first]
    if character in DIGITS:
        return number_at(text, first)
    if character in NAME_CHARACTERS:
        return name_at(text, first)
    if character == "'":
        return quoted_at(text, first)
    if character == "\"":
        return string_at(text, first)
    return sign_at(text, first)


def end_of(text, first, characters):
    """Returns the place behind the longest run of some characters that begins at a place."""
    end = first
    while end < len(text) and text[end] in characters:
        end += 1
    return end


def number_at(text, first):
    """Returns what word_at does for a number."""
    end = end_of(text, first, DIGITS)
    if end - first > MOST_DIGITS:
        raise InvalidWords(first)
    return "number", int(text[first:end]), end


def name_at(text, first):
    """Returns what word_at does for a name that is not quoted."""
    end = end_of(text, first, NAME_CHARACTERS)
    if end - first > LONGEST_NAME:
        raise InvalidWords(first)
    return "name", text[first:end], end


def quoted_at(text, first):
    """Returns what word_at does for a quoted name."""
    end = text.find("'", first + 1)
    if end < 0 or not is_simple_name(text[first + 1:end]):
        raise InvalidWords(first)
    return "quoted", text[first + 1:end], end + 1


def string_at(text, first):
    """Returns what word_at does for a string."""
    characters = []
    at = first + 1
    while at < len(text) and text[at] != "\"":
        character = text[at]
        if character == "\\":
            at += 1
            character = ESCAPED.get(text[at:at + 1])
        elif character == "\n" or not is_text(character):
            character = None
        if character is None:
            raise InvalidWords(first)
        characters.append(character)
        at += 1
    if at == len(text):
        raise InvalidWords(first)
    return "string", "".join(characters), at + 1


def sign_at(text, first):
    """Returns what word_at does for a sign."""
    for sign in SIGNS:
        if text.startswith(sign, first):
            return "sign", sign, first + len(sign)
    raise InvalidWords(first)
