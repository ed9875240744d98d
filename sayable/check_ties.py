"""Reading papers of pairs: whether a TieSaid or a TieUnsaid is right."""

from sayable.checks import is_list
from sayable.couples import Couples, are_few_couples, is_couple
from sayable.fields import Field
from sayable.needs import are_few_rooms
from sayable.tied import pairs_in
from sayable.ties import Tie
from sayable.tiesaid import TieSaid, TieUnsaid, meant_couples


def shows_tie(rooms, meant, value):
    """Whether any value is a right TieSaid or TieUnsaid for the meant pairs."""
    if not are_few_rooms(rooms):
        return False
    told = meant_couples(rooms, meant)
    if not are_few_couples(rooms):
        return False
    if isinstance(value, TieSaid):
        return _is_said_by(rooms, told, value.tie)
    return isinstance(value, TieUnsaid) and _shows_unsaid(rooms, told, value)


def _is_said_by(rooms, told, tie):
    """Whether any value is a Tie, with words and links of the stock alone, whose pairs are just the told ones."""
    if not isinstance(tie, Tie):
        return False
    words, links, _ = rooms[0].stock
    if not all([word in words for word in tie.words]) or not all([link in links for link in tie.links]):
        return False
    pairs = pairs_in(rooms, tie)
    found = [(index, one, other) for index, row in enumerate(pairs) for one, other in row]
    return sorted(found) == sorted(told)


def _shows_unsaid(rooms, told, value):
    """Whether the classes are a stable parting, of one class of which are a meant couple and another one."""
    if not is_couple(rooms, value.one) or not is_couple(rooms, value.other):
        return False
    if value.one not in told or value.other in told:
        return False
    couples = Couples(Field(rooms))
    colors = _told_colors(rooms, couples, value.groups)
    if colors is None:
        return False
    one, other = couples.number_pair(value.one), couples.number_pair(value.other)
    return colors[one] == colors[other] and couples.is_stable(colors)


def _told_colors(rooms, couples, groups):
    """The parting that any value tells, classes and couples in any order; None if it tells none."""
    if not is_list(groups) or not all([is_list(group) and group for group in groups]):
        return None
    colors = {}
    for number, group in enumerate(groups):
        for couple in group:
            if not is_couple(rooms, couple):
                return None
            pair = couples.number_pair(couple)
            if pair in colors:
                return None
            colors[pair] = number
    return colors if len(colors) == len(couples.all_couples) else None
