"""What any value is: an integer, a stem, a name."""

from sayable.errors import TooMany

LONGEST_STEM = 12
MOST_STEMS = 6


def is_list(value):
    """Whether it is a list or a tuple: either may be passed for the other."""
    return isinstance(value, (list, tuple))


def is_integer(value):
    """Whether it is an integer; True and False are none."""
    return isinstance(value, int) and not isinstance(value, bool)


def is_within(value, least, most):
    """Whether it is an integer from least to most; None is no bound."""
    if not is_integer(value):
        return False
    return (least is None or least <= value) and (most is None or value <= most)


def is_stem(value):
    """Whether it is 1 to 12 small letters and digits, a letter first."""
    if not isinstance(value, str) or not 1 <= len(value) <= LONGEST_STEM:
        return False
    # islower alone takes digits, isalnum alone takes great letters
    return value.isascii() and value.isalnum() and value.islower() and value[0].isalpha()


def is_name(value):
    """Whether it is 1 to 6 stems with single dots between."""
    if not isinstance(value, str) or value.count(".") >= MOST_STEMS:
        return False
    return all([is_stem(stem) for stem in value.split(".")])


def joined_name(*names):
    """The names as one name, with dots between."""
    name = ".".join(names)
    if name.count(".") >= MOST_STEMS:
        raise TooMany("stems", MOST_STEMS)
    return name
