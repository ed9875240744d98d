"""The narrowest sayings that fit points."""

from sayable.alike import like_mask
from sayable.bits import bits_of
from sayable.checks import is_within
from sayable.errors import BadNumbers
from sayable.needs import need_rooms
from sayable.partings import Partings
from sayable.plainlike import point_rounds
from sayable.points import need_point

MOST_DEPTH = 12


def narrowest_saying(rooms, point, depth, back=False):
    """A saying, no deeper than told, that fits just the places that are like the point for so many rounds."""
    need_rooms(rooms)
    need_point(rooms, point)
    if not is_within(depth, 0, MOST_DEPTH):
        raise BadNumbers("depth")
    found = point_rounds(rooms, point, back)
    others = bits_of(found.field.whole & ~like_mask(found.table[0], depth))
    partings = Partings(found)
    return partings.maker.saying_of(partings.part_between([0], others))
