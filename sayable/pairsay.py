"""Sayings that part pairs of places."""

from sayable.fields import Field
from sayable.likeness import need_pair
from sayable.needs import need_few_places
from sayable.partings import Partings
from sayable.placerounds import PlaceRounds


def parting_saying(rooms, way, one, other):
    """A saying of the way that fits one and not other, of the least depth; None if other is like one."""
    need_pair(rooms, way, one, other)
    need_few_places(rooms)
    field = Field(rooms)
    rounds = PlaceRounds(field, way)
    pair = (field.number_of_place(one), field.number_of_place(other))
    if rounds.table[pair[0]][pair[1]] is None:
        return None
    partings = Partings(rounds)
    return partings.maker.saying_of(partings.part_for(pair[0], pair[1]))
