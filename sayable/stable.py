"""The coarsest stable parting of places: which of them no comparing can tell apart."""

from sayable.comparing import COMPARING_WAYS, ClassMaker
from sayable.fields import Field
from sayable.needs import need_few_places, need_place, need_rooms
from sayable.ways import need_way


def stable_classes(rooms, way):
    """The classes of the coarsest parting of the places of these rooms that is stable for the way."""
    need_rooms(rooms)
    need_way(way, COMPARING_WAYS)
    need_few_places(rooms)
    maker = ClassMaker(Field(rooms), way)
    return maker.told_classes()


def is_apart(rooms, way, one, other):
    """Whether two places stand in unlike classes of this parting."""
    need_rooms(rooms)
    need_way(way, COMPARING_WAYS)
    need_place(rooms, one, "one")
    need_place(rooms, other, "other")
    need_few_places(rooms)
    field = Field(rooms)
    maker = ClassMaker(field, way)
    colors = maker.class_colors()
    return colors[field.number_of_place(one)] != colors[field.number_of_place(other)]
