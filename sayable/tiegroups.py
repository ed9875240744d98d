"""The coarsest stable parting of couples: which of them no tie can part."""

from sayable.couples import MOST_COUPLES, Couples, are_few_couples, is_couple
from sayable.errors import BadTie, TooMany
from sayable.fields import Field
from sayable.needs import need_rooms


def need_few_couples(rooms):
    """Raises if the rooms have more couples than may be."""
    if not are_few_couples(rooms):
        raise TooMany("couples", MOST_COUPLES)


def told_classes(couples, colors):
    """The classes of a parting as tuples of couples."""
    return tuple([tuple([couples.told_couple(pair) for pair in pairs]) for pairs in couples.classes_of(colors)])


def tie_classes(rooms):
    """The classes of the coarsest stable parting of the couples of these rooms."""
    need_rooms(rooms)
    need_few_couples(rooms)
    couples = Couples(Field(rooms))
    rounds = couples.refined()
    return told_classes(couples, rounds[-1])


def are_parted(rooms, one, other):
    """Whether two couples are of unlike classes of the coarsest stable parting."""
    need_rooms(rooms)
    if not is_couple(rooms, one):
        raise BadTie("one")
    if not is_couple(rooms, other):
        raise BadTie("other")
    need_few_couples(rooms)
    couples = Couples(Field(rooms))
    colors = couples.refined()[-1]
    return colors[couples.number_pair(one)] != colors[couples.number_pair(other)]
