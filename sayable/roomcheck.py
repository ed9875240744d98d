"""What a room is made of: each value that was passed is looked at, and kept as masks.

Things are numbered in their order. A word is the mask of the things of which it
holds, a link a row with the mask of the things to which it leads from each, a
scale a row with the number of each thing, or None.
"""

from sayable.bits import turned_rows
from sayable.checks import is_list, is_name, is_within
from sayable.errors import BadRoom, TooMany

MOST_THINGS = 40
MOST_WORDS = 60
MOST_LINKS = 8
MOST_SCALES = 8
GREATEST = 999999999


def checked_things(things):
    """The dict from the things to their numbers."""
    if not is_list(things) or not things:
        raise BadRoom("things")
    at = {}
    for thing in things:
        if not is_name(thing) or thing in at:
            raise BadRoom("things")
        at[thing] = len(at)
    return at


def _need_named(told, part):
    if not isinstance(told, dict) or not all([is_name(name) for name in told]):
        raise BadRoom(part)


def _number_of(thing, at, part):
    if not isinstance(thing, str) or thing not in at:
        raise BadRoom(part)
    return at[thing]


def checked_words(words, at):
    """The dict from the words, ascending, to their masks."""
    _need_named(words, "words")
    return {word: _word_mask(words[word], at) for word in sorted(words)}


def _word_mask(things, at):
    if not is_list(things):
        raise BadRoom("words")
    mask = 0
    for thing in things:
        bit = 1 << _number_of(thing, at, "words")
        if mask & bit:
            raise BadRoom("words")
        mask = mask | bit
    return mask


def checked_links(links, at):
    """The dict from the links, ascending, to their two rows of masks: read on, and back."""
    _need_named(links, "links")
    rows = {link: _link_row(links[link], at) for link in sorted(links)}
    return {link: (tuple(rows[link]), tuple(turned_rows(rows[link]))) for link in rows}


def _link_row(pairs, at):
    if not is_list(pairs):
        raise BadRoom("links")
    row = [0] * len(at)
    for pair in pairs:
        if not is_list(pair) or len(pair) != 2:
            raise BadRoom("links")
        one = _number_of(pair[0], at, "links")
        bit = 1 << _number_of(pair[1], at, "links")
        if row[one] & bit:
            raise BadRoom("links")
        row[one] = row[one] | bit
    return row


def checked_scales(scales, at):
    """The dict from the scales, ascending, to their rows of numbers."""
    if scales is None:
        return {}
    _need_named(scales, "scales")
    return {scale: tuple(_scale_row(scales[scale], at)) for scale in sorted(scales)}


def _scale_row(numbers, at):
    if not isinstance(numbers, dict):
        raise BadRoom("scales")
    row = [None] * len(at)
    for thing in numbers:
        if not is_within(numbers[thing], -GREATEST, GREATEST):
            raise BadRoom("scales")
        row[_number_of(thing, at, "scales")] = numbers[thing]
    return row


def need_few(things, words, links, scales):
    """Raises TooMany for the first of these of which a room cannot have so many."""
    if len(things) > MOST_THINGS:
        raise TooMany("things", MOST_THINGS)
    if len(words) > MOST_WORDS:
        raise TooMany("words", MOST_WORDS)
    if len(links) > MOST_LINKS:
        raise TooMany("links", MOST_LINKS)
    if len(scales) > MOST_SCALES:
        raise TooMany("scales", MOST_SCALES)
