"""Reading texts: words with single blanks between."""

from sayable.errors import BadText

MOST_FIGURES = 9


def is_written(word, signed):
    """Whether any value is an integer as str writes it, with a sign only if signed."""
    if not isinstance(word, str):
        return False
    figures = word.removeprefix("-") if signed else word
    if not 1 <= len(figures) <= MOST_FIGURES:
        return False
    if not figures.isascii() or not figures.isdigit():
        return False
    return figures[0] != "0" or word == "0"


class Reader:
    """The words of a text, and the index of the one at hand."""

    def __init__(self, text):
        if not isinstance(text, str):
            raise BadText(0, 0)
        self.words = text.split(" ")
        self.at = 0

    def now(self):
        """The word at hand; None behind the last one."""
        if self.at < len(self.words):
            return self.words[self.at]
        return None

    def step(self):
        """Goes on to the next word."""
        self.at += 1

    def fail(self):
        """Raises that the word at hand cannot stand, or is missing."""
        raise BadText(0, self.at)

    def refuse_last(self):
        """Raises that the last word cannot stand."""
        raise BadText(0, len(self.words) - 1)
