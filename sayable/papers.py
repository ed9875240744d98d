"""Papers: answers, and what shows them."""


def fixed(value):
    """The value with lists as tuples, and dicts as tuples of their pairs, all the way in."""
    if isinstance(value, (list, tuple)):
        return tuple([fixed(item) for item in value])
    if isinstance(value, dict):
        return tuple([(key, fixed(value[key])) for key in sorted(value)])
    return value


def _are_equal(one, other):
    """Whether two papers are equal: a denial never equals a paper that is none."""
    if one.__class__.__name__ != other.__class__.__name__:
        return False
    return one.word == other.word and one.parts == other.parts


class Paper:
    """An answer: its word, and its parts."""

    def __init__(self, word, *parts):
        self.word = word
        self.parts = fixed(parts)

    def __bool__(self):
        return True

    def __eq__(self, other):
        return isinstance(other, Paper) and _are_equal(self, other)


class Denial(Paper):
    """An answer that says no."""

    def __init__(self, word, *parts):
        Paper.__init__(self, word, *parts)

    def __bool__(self):
        return False

    def __eq__(self, other):
        return isinstance(other, Denial) and _are_equal(self, other)
