"""Loose rooms: rooms of which some facts are unknown."""

from sayable.checks import is_list
from sayable.errors import BadLoose, BadRoom, TooMany
from sayable.rooms import Room

MOST_UNKNOWN = 6
# How many names each kind of fact has behind its kind.
FACT_NAMES = {"word": 2, "link": 3}


def _is_fact(value):
    if not is_list(value) or not value or not isinstance(value[0], str):
        return False
    return value[0] in FACT_NAMES and len(value) == FACT_NAMES[value[0]] + 1


def _need_told(room, fact):
    """Raises for the first name of a fact that the room lacks."""
    if fact[0] == "word":
        room.holds(fact[1], fact[2])
    else:
        room.leads(fact[1], fact[2])
        room.number_of_thing(fact[3])


def _need_facts(room, unknown):
    if not is_list(unknown) or not all([_is_fact(fact) for fact in unknown]):
        raise BadLoose("unknown")
    for fact in unknown:
        _need_told(room, fact)
    if len({tuple(fact) for fact in unknown}) < len(unknown):
        raise BadLoose("twice")
    if len(unknown) > MOST_UNKNOWN:
        raise TooMany("unknown", MOST_UNKNOWN)


class Loose:
    """A room, and the facts of it that are unknown."""

    def __init__(self, room, unknown):
        if not isinstance(room, Room):
            raise BadRoom("room")
        _need_facts(room, unknown)
        self.room = room
        self.unknown = tuple([tuple(fact) for fact in unknown])
        self._first = self.filled([False] * len(unknown))

    def __eq__(self, other):
        return isinstance(other, Loose) and self.unknown == other.unknown and self._first == other._first

    def filled(self, truths):
        """The filling in which the facts are as the truths tell."""
        if not is_list(truths) or len(truths) != len(self.unknown):
            raise BadLoose("truths")
        if not all([isinstance(truth, bool) for truth in truths]):
            raise BadLoose("truths")
        words, links = self.room.word_lists(), self.room.link_lists()
        for fact, truth in zip(self.unknown, truths):
            told = words[fact[1]] if fact[0] == "word" else links[fact[1]]
            item = fact[2] if fact[0] == "word" else fact[2:]
            if item in told:
                told.remove(item)
            if truth:
                told.append(item)
        return Room(self.room.things, words, links, self.room.scale_dicts())


def fillings(loose):
    """Yields the fillings, in the order of the binary numbers of their facts."""
    if not isinstance(loose, Loose):
        raise BadLoose("loose")
    many = len(loose.unknown)
    for code in range(1 << many):
        yield loose.filled([code >> place & 1 == 1 for place in reversed(range(many))])
