"""Which places are like which, in the ten ways that have "or"."""

from sayable.alike import LIKE_WAYS, parting_table
from sayable.fields import Field
from sayable.needs import need_few_places, need_place, need_rooms, need_rounds
from sayable.ways import need_way


def _is_like(parted, rounds):
    """Whether a pair that parts at a round, or never, is like for so many rounds, or for all."""
    return parted is None or (rounds is not None and rounds < parted)


def likeness_pairs(rooms, way, rounds=None):
    """The pairs (one, other) of which other is like one; or is so for so many rounds."""
    need_rooms(rooms)
    need_way(way, LIKE_WAYS)
    need_rounds(rounds)
    need_few_places(rooms)
    field = Field(rooms)
    places = field.all_places
    table = parting_table(field, way)
    return tuple([(one, other) for one, row in zip(places, table) for other, parted in zip(places, row)
                  if _is_like(parted, rounds)])


def need_pair(rooms, way, one, other):
    """Raises unless these are rooms, a way of likeness, and two of their places."""
    need_rooms(rooms)
    need_way(way, LIKE_WAYS)
    need_place(rooms, one, "one")
    need_place(rooms, other, "other")


def is_like(rooms, way, one, other, rounds=None):
    """Whether other is like one; or is so for so many rounds."""
    need_pair(rooms, way, one, other)
    need_rounds(rounds)
    return _is_like(parting_round(rooms, way, one, other), rounds)


def parting_round(rooms, way, one, other):
    """The round at which the pair parts; None if other is like one."""
    need_pair(rooms, way, one, other)
    need_few_places(rooms)
    field = Field(rooms)
    table = parting_table(field, way)
    return table[field.number_of_place(one)][field.number_of_place(other)]
