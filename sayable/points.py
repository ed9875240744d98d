"""Points: several places that are spoken of together, in the plain ways."""

from sayable.bits import bits_of
from sayable.checks import is_list
from sayable.errors import BadPlace, NoLink
from sayable.fields import Field
from sayable.needs import is_place, need_few_places, need_rooms
from sayable.pointwalk import PointWalk, in_order, led_points, points_about


def is_point(rooms, value):
    """Whether any value is a point of these rooms."""
    if not is_list(value) or not value or not all([is_place(rooms, place) for place in value]):
        return False
    order = [(place[0], rooms[place[0]].number_of_thing(place[1])) for place in value]
    return order == sorted(set(order))


def need_point(rooms, point):
    """Raises unless it is a point of these rooms."""
    if not is_point(rooms, point):
        raise BadPlace("point")


def plain_way(back):
    """The plain way that reads links on alone, or back, too."""
    return "plain.back" if back else "plain"


def points_met(rooms, point, back=False):
    """Yields the points that come about from a point, in the order in which they are met."""
    need_rooms(rooms)
    need_point(rooms, point)
    need_few_places(rooms)
    field = Field(rooms)
    for met in points_about(PointWalk(field, plain_way(back)), field.mask_of_places(point)):
        yield field.places_in(met)


def point_words(rooms, point):
    """The words that hold of a point, ascending."""
    need_rooms(rooms)
    need_point(rooms, point)
    need_few_places(rooms)
    field = Field(rooms)
    mask = field.mask_of_places(point)
    return tuple([word for word in field.words if mask & ~field.word_mask(word) == 0])


def point_leads(rooms, point, link, back=False):
    """The points to which a link, read on or back, leads from a point, in their order."""
    need_rooms(rooms)
    need_point(rooms, point)
    if not isinstance(link, str) or link not in rooms[0].links:
        raise NoLink(link)
    need_few_places(rooms)
    field = Field(rooms)
    rows = field.link_rows(link, back)
    led = led_points([rows[number] for number in bits_of(field.mask_of_places(point))])
    return tuple([field.places_in(mask) for mask in in_order(led)])
