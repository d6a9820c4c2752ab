"""Going through the words of a text."""

from manysides.errors import InvalidWords
from manysides.tokens import RESERVED, split_words

# Numbers outside of values and expressions are less than this.
SMALL_BOUND = 10 ** 7


class WordReader:
    """The words of a text, which are taken from the first to the last one. It raises InvalidWords."""

    def __init__(self, text):
        self._words = split_words(text)
        self._end = len(text)
        self._at = 0

    def next_place(self):
        """Returns the place of the next word, or the length of the text if there is none."""
        return self._end if self.is_at_end() else self._words[self._at][0]

    def is_at_end(self):
        """Returns True if all words were taken, otherwise False."""
        return self._at == len(self._words)

    def kind(self):
        """Returns the kind of the next word, or the empty text if there is none."""
        return "" if self.is_at_end() else self._words[self._at][1]

    def fixed(self):
        """Returns the next word if it is a sign or a name that is not quoted, otherwise the empty text."""
        return self._words[self._at][2] if self.kind() in ("sign", "name") else ""

    def is_name(self):
        """Returns True if the next word is a NAME, otherwise False."""
        return self.kind() == "quoted" or (self.kind() == "name" and self.fixed() not in RESERVED)

    def take(self):
        """Returns the next word, and goes on behind it. There is one."""
        word = self._words[self._at][2]
        self._at += 1
        return word

    def passes(self, word):
        """Returns True and goes on behind the next word if it is a told sign or reserved name, otherwise False."""
        if self.fixed() != word:
            return False
        self.take()
        return True

    def need(self, word):
        """Goes on behind the next word. Raises InvalidWords if it is not a told sign or reserved name."""
        if not self.passes(word):
            raise InvalidWords(self.next_place())

    def need_one_of(self, words):
        """Returns the next word, and goes on. Raises InvalidWords if it is none of some signs and names."""
        if self.fixed() not in words:
            raise InvalidWords(self.next_place())
        return self.take()

    def need_kind(self, kind):
        """Returns the next word, and goes on behind it. Raises InvalidWords if it has another kind."""
        if self.kind() != kind:
            raise InvalidWords(self.next_place())
        return self.take()

    def need_name(self):
        """Returns the name that a NAME stands for, and goes on behind it."""
        if not self.is_name():
            raise InvalidWords(self.next_place())
        return self.take()

    def need_int(self):
        """Returns the value of an INT, however great, and goes on behind it."""
        sign = -1 if self.passes("-") else 1
        return sign * self.need_kind("number")

    def need_small_int(self):
        """Returns the value of an INT. Raises InvalidWords at its number if it is too great."""
        sign = -1 if self.passes("-") else 1
        first = self.next_place()
        number = self.need_kind("number")
        if number >= SMALL_BOUND:
            raise InvalidWords(first)
        return sign * number
