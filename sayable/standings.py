"""Standings: what was picked last, before, and first, and what a saying picks then."""

from sayable.checks import is_list, is_name, is_within
from sayable.errors import BadNumbers, BadTalk, Twice, Unlike
from sayable.needs import need_rooms
from sayable.reads import reading_of

TALK_WORDS = ("first", "it", "other")


def _is_crowd(value):
    """Whether any value is a list of one or more different names."""
    if not is_list(value) or not value or not all([is_name(name) for name in value]):
        return False
    return len(set(value)) == len(value)


def _picked(value, part):
    """The crowds of a pick as tuples; raises unless it is a list of one crowd or more."""
    if not is_list(value) or not value or not all([_is_crowd(crowd) for crowd in value]):
        raise BadTalk(part)
    return tuple([tuple(crowd) for crowd in value])


def _need_alike(picks):
    """Raises unless all of these that are not None have as many crowds."""
    told = [len(picked) for picked in picks if picked is not None]
    if told and min(told) != max(told):
        raise Unlike("rooms")


class Standing:
    """Three picks, each or None: the last one, the one before, and the first one."""

    def __init__(self, last=None, before=None, first=None):
        self.last = None if last is None else _picked(last, "last")
        self.before = None if before is None else _picked(before, "before")
        self.first = None if first is None else _picked(first, "first")
        _need_alike(self.picks())

    def __eq__(self, other):
        if not isinstance(other, Standing):
            return False
        return self.last == other.last and self.before == other.before and self.first == other.first

    def picks(self):
        """The three picks, in order."""
        return self.last, self.before, self.first

    def behind(self, picked):
        """The standing behind a pick."""
        told = _picked(picked, "picked")
        _need_alike((told, *self.picks()))
        return Standing(told, self.last, told if self.first is None else self.first)

    def word_things(self, number):
        """The dict from the three words to the things of which they hold in the room with this number."""
        picks = self.picks()
        many = max([len(picked) for picked in picks if picked is not None], default=None)
        if not is_within(number, 0, None if many is None else many - 1):
            raise BadNumbers("number")
        held = [[] if picked is None else list(picked[number]) for picked in picks]
        return {"it": held[0], "other": held[1], "first": held[2]}


def standing_of(picks):
    """The standing that tells three picks, each None or crowds that were looked at before."""
    standing = Standing()
    standing.last, standing.before, standing.first = picks
    return standing


def is_pick(rooms, picked):
    """Whether a pick of a standing is one in these rooms: a crowd for each, in the order of its room."""
    if len(picked) != len(rooms):
        return False
    return all([_is_crowd_of(room, crowd) for room, crowd in zip(rooms, picked)])


def _is_crowd_of(room, crowd):
    if not all([thing in room for thing in crowd]):
        return False
    numbers = [room.number_of_thing(thing) for thing in crowd]
    return numbers == sorted(set(numbers))


def need_free_words(rooms):
    """Raises for the first of the three words that the stock has."""
    for word in TALK_WORDS:
        if word in rooms[0].words:
            raise Twice(word)


def picked_by(rooms, standing, saying):
    """What a saying picks in a standing; None if it picks nothing."""
    need_rooms(rooms)
    need_free_words(rooms)
    if not isinstance(standing, Standing):
        raise BadTalk("standing")
    if not all([picked is None or is_pick(rooms, picked) for picked in standing.picks()]):
        raise BadTalk("standing")
    found = tuple([reading_of(room, saying, standing.word_things(number)) for number, room in enumerate(rooms)])
    return None if () in found else found
