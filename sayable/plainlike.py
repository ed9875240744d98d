"""Which places are like which points, in the plain ways."""

from sayable.fields import Field
from sayable.needs import need_few_places, need_place, need_rooms, need_rounds
from sayable.partings import Partings
from sayable.pointrounds import PointRounds
from sayable.points import need_point, plain_way
from sayable.pointwalk import PointWalk


def _need_pair(rooms, point, place):
    """Raises unless these are rooms, a point and a place of them."""
    need_rooms(rooms)
    need_point(rooms, point)
    need_place(rooms, place, "place")


def point_rounds(rooms, point, back):
    """The rounds at which this point, number 0, and those that come about from it part from places."""
    need_few_places(rooms)
    field = Field(rooms)
    walk = PointWalk(field, plain_way(back))
    return PointRounds(field, walk.web(field.mask_of_places(point)))


def is_like_point(rooms, point, place, back=False, rounds=None):
    """Whether the place is like the point; or is so for so many rounds."""
    _need_pair(rooms, point, place)
    need_rounds(rounds)
    parted = point_round(rooms, point, place, back)
    return parted is None or (rounds is not None and rounds < parted)


def point_round(rooms, point, place, back=False):
    """The round at which the pair parts; None if the place is like the point."""
    _need_pair(rooms, point, place)
    found = point_rounds(rooms, point, back)
    return found.table[0][found.field.number_of_place(place)]


def point_parting(rooms, point, place, back=False):
    """A saying of the way, of the least depth, that fits the point and not the place; None if there is none."""
    _need_pair(rooms, point, place)
    found = point_rounds(rooms, point, back)
    other = found.field.number_of_place(place)
    if found.table[0][other] is None:
        return None
    partings = Partings(found)
    return partings.maker.saying_of(partings.part_for(0, other))
