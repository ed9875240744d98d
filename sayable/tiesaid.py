"""Pairs that a tie says, in some rooms, and those that none does."""

from sayable.checks import is_list
from sayable.couples import Couples, is_couple
from sayable.errors import BadTie
from sayable.fields import Field
from sayable.needs import need_rooms
from sayable.papers import Denial, Paper
from sayable.tiegroups import need_few_couples, told_classes
from sayable.tiemaker import TieMaker
from sayable.ties import no_pairs


class TieSaid(Paper):
    """A tie that has just the meant pairs."""

    def __init__(self, tie):
        Paper.__init__(self, "tiesaid", tie)
        self.tie = self.parts[0]


class TieUnsaid(Denial):
    """A stable parting, and a meant couple and another one of one class: so no tie has just the meant pairs."""

    def __init__(self, one, other, groups):
        Denial.__init__(self, "tieunsaid", one, other, groups)
        self.one, self.other, self.groups = self.parts


def meant_couples(rooms, meant):
    """The meant couples, each as (index, one, other); raises for what tells none."""
    if not is_list(meant) or len(meant) != len(rooms) or not all([is_list(pairs) for pairs in meant]):
        raise BadTie("meant")
    told = []
    for index, pairs in enumerate(meant):
        for pair in pairs:
            if not is_list(pair) or not is_couple(rooms, (index, *pair)):
                raise BadTie("meant")
            told.append((index, *pair))
    if len(set(told)) < len(told):
        raise BadTie("meant")
    return told


class Meaning:
    """The coarsest stable parting of some rooms, and which of its classes have meant couples."""

    def __init__(self, rooms, meant):
        need_rooms(rooms)
        told = meant_couples(rooms, meant)
        need_few_couples(rooms)
        self.couples = Couples(Field(rooms))
        self.rounds = self.couples.refined()
        self.colors = self.rounds[-1]
        self.meant = {self.couples.number_pair(couple): True for couple in told}
        self.classes = {self.colors[pair]: True for pair in self.meant}

    def first_mixed(self):
        """Of the first class with meant couples and others the first meant one, and the first other one."""
        for pairs in self.couples.classes_of(self.colors):
            held = [pair for pair in pairs if pair in self.meant]
            left = [pair for pair in pairs if pair not in self.meant]
            if held and left:
                return held[0], left[0]
        return None


def say_pairs(rooms, meant):
    """A TieSaid, if a tie has just the meant pairs in each room; otherwise a TieUnsaid."""
    meaning = Meaning(rooms, meant)
    couples = meaning.couples
    mixed = meaning.first_mixed()
    if mixed is not None:
        one, other = mixed
        return TieUnsaid(couples.told_couple(one), couples.told_couple(other), told_classes(couples, meaning.colors))
    maker = TieMaker(couples)
    numbers = maker.class_numbers(meaning.rounds)
    found = None
    for color in sorted(meaning.classes):
        found = numbers[color] if found is None else maker.put(("either", found, numbers[color]))
    return TieSaid(no_pairs() if found is None else maker.tie_of(found))


def class_ties(rooms):
    """For each class of the coarsest stable parting a tie that fits just its couples."""
    need_rooms(rooms)
    need_few_couples(rooms)
    couples = Couples(Field(rooms))
    maker = TieMaker(couples)
    return tuple([maker.tie_of(number) for number in maker.class_numbers(couples.refined())])


def pairs_around(rooms, meant):
    """For each room the pairs whose couples are in a class that has a meant one."""
    meaning = Meaning(rooms, meant)
    found = [[] for _ in rooms]
    for pair in meaning.couples.all_couples:
        if meaning.colors[pair] in meaning.classes:
            index, one, other = meaning.couples.told_couple(pair)
            found[index].append((one, other))
    return tuple([tuple(pairs) for pairs in found])
