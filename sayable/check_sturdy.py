"""Reading papers of sturdy sayings: whether a Sturdy or a Shaken is right."""

from sayable.checks import is_list, is_within
from sayable.reads import reading_of
from sayable.sturdy import MOST_DEEDS, Shaken, Sturdy, need_reading, shaking_sets


def shows_sturdy(room, saying, deeds, value):
    """Whether any value is a right Sturdy or Shaken for the saying and the deeds."""
    need_reading(room, saying, deeds)
    if len(deeds) > MOST_DEEDS or not isinstance(value, (Sturdy, Shaken)):
        return False
    shaking = list(shaking_sets(room, saying, deeds))
    if isinstance(value, Sturdy):
        return not shaking and is_list(value.things) and tuple(value.things) == reading_of(room, saying)
    if not is_list(value.picked) or not all([is_within(index, 0, len(deeds) - 1) for index in value.picked]):
        return False
    # The sets stand in the order of their sizes.
    return value.picked in shaking and len(value.picked) == len(shaking[0])
