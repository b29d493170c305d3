"""The words of a line, read one behind the other."""

from latecharge.errors import InvalidText
from latecharge.kinds import is_name, is_names

MOST_DIGITS = 60


def number_of(word):
    """The number that a word writes, or None."""
    if not (word.isascii() and word.isdigit()) or len(word) > MOST_DIGITS:
        return None
    if word != "0" and word.startswith("0"):
        return None
    return int(word)


def name_of(word):
    """The name that a word writes, or None."""
    return word if is_name(word) else None


def set_of(word):
    """The nonempty set of names that a word writes, or None."""
    names = tuple(word.split(","))
    return names if is_names(names) else None


def shares_of(word):
    """The shares that a word writes, or None."""
    if word == "-":
        return ()
    shares = tuple([number_of(part) for part in word.split(",")])
    return None if None in shares else shares


class Words:
    """The words of a line. Each method takes the next word, and raises InvalidText if it is not possible."""

    def __init__(self, text, line, field):
        self._words = text.split(" ")
        self._line = line
        self._field = field
        self._at = 0

    def has_more(self):
        """Whether there are words that are not taken yet."""
        return self._at < len(self._words)

    def next_word(self):
        """The next word, not taken yet; an empty one, which is never possible, if there is none."""
        return self._words[self._at] if self.has_more() else ""

    def taken(self, value):
        """This value of the next word, which now is taken; None stands for a word that is not possible."""
        if value is None:
            raise InvalidText(self._line, self._field + self._at)
        self._at += 1
        return value

    def one_of(self, heads):
        """Takes one of these words."""
        word = self.next_word()
        return self.taken(word if word in heads else None)

    def number(self, least=0):
        """Takes a number that is at least so great."""
        value = number_of(self.next_word())
        return self.taken(None if value is None or value < least else value)

    def name(self):
        """Takes a name."""
        return self.taken(name_of(self.next_word()))

    def names(self):
        """Takes a set of names."""
        return self.taken(set_of(self.next_word()))

    def shares(self):
        """Takes shares."""
        return self.taken(shares_of(self.next_word()))

    def end(self):
        """Takes nothing: a further word is one too many."""
        if self.has_more():
            raise InvalidText(self._line, self._field + self._at)
