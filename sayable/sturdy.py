"""Sayings that hold, whatever some of a list of deeds happen."""

from sayable.books import Book
from sayable.changes import changed_room, is_deed
from sayable.checks import is_list, is_name
from sayable.errors import BadBook, BadDeed, SayError, TooMany
from sayable.needs import need_room, need_saying
from sayable.papers import Denial, Paper
from sayable.reads import need_in_stock, reading_of
from sayable.said import say_book
from sayable.subsets import subsets
from sayable.watched import are_other_things
from sayable.ways import need_way

MOST_DEEDS = 8
MOST_SAID_DEEDS = 6


class Sturdy(Paper):
    """What a saying reads in a room, and in each that is made of it."""

    def __init__(self, things):
        Paper.__init__(self, "sturdy", things)
        self.things = self.parts[0]


class Shaken(Denial):
    """Indexes of deeds behind which a saying reads other things."""

    def __init__(self, picked):
        Denial.__init__(self, "shaken", picked)
        self.picked = self.parts[0]


def need_deeds(deeds):
    """Raises unless it is a list of deeds, for some rooms or other."""
    if not is_list(deeds) or not all([is_deed(deed) for deed in deeds]):
        raise BadDeed("deeds")


def need_few_deeds(deeds, most):
    """Raises if there are more deeds than may be."""
    if len(deeds) > most:
        raise TooMany("deeds", most)


def rooms_behind(room, deeds):
    """The dict from each set of indexes of the deeds, in their order, to the room behind it."""
    behind = {(): room}
    for size in range(1, len(deeds) + 1):
        for picked in subsets(list(range(len(deeds))), size):
            behind[picked] = _room_behind(behind[picked[:-1]], deeds[picked[-1]])
    return behind


def _room_behind(room, deed):
    """The room behind a deed, or as it is where the deed is passed over."""
    try:
        return changed_room(room, deed)
    except SayError:
        return room


def _different_rooms(room, deeds):
    """The rooms behind the sets of the deeds, each different one once."""
    behind = rooms_behind(room, deeds)
    found = {}
    for picked in behind:
        found.setdefault(str(behind[picked]), behind[picked])
    return tuple([found[text] for text in found])


def rooms_made(room, deeds):
    """The different rooms behind the sets of the deeds, in the order of the first sets that make them."""
    need_room(room)
    need_deeds(deeds)
    need_few_deeds(deeds, MOST_DEEDS)
    return _different_rooms(room, deeds)


def need_reading(room, saying, deeds):
    """Raises unless these are a room, a saying that can be read there, and a list of deeds."""
    need_room(room)
    need_saying(saying)
    need_deeds(deeds)
    need_in_stock(room, saying, ())


def shaking_sets(room, saying, deeds):
    """Yields the sets of the deeds, in their order, behind which a saying reads other things than in the room."""
    behind = rooms_behind(room, deeds)
    reading = reading_of(room, saying)
    for picked in behind:
        if are_other_things(reading_of(behind[picked], saying), reading):
            yield picked


def sturdy_reading(room, saying, deeds):
    """The Sturdy of a saying, or the Shaken of the first set behind which it reads other things."""
    need_reading(room, saying, deeds)
    need_few_deeds(deeds, MOST_DEEDS)
    for picked in shaking_sets(room, saying, deeds):
        return Shaken(picked)
    return Sturdy(reading_of(room, saying))


def sturdy_book(room, crowd, deeds):
    """The book of the made rooms, with the crowd meant in each."""
    _need_crowd(room, crowd, deeds)
    return _made_book(room, crowd, deeds, MOST_DEEDS)


def say_sturdy(room, crowd, deeds, way):
    """What say_book tells of the book of the made rooms."""
    _need_crowd(room, crowd, deeds)
    need_way(way)
    return say_book(_made_book(room, crowd, deeds, MOST_SAID_DEEDS), way)


def _need_crowd(room, crowd, deeds):
    need_room(room)
    if not is_list(crowd) or not all([is_name(thing) for thing in crowd]) or len(set(crowd)) < len(crowd):
        raise BadBook("crowd")
    need_deeds(deeds)


def _made_book(room, crowd, deeds, most):
    """The book of the made rooms; raises for the first room, and its first thing of the crowd, that is not there."""
    for thing in crowd:
        room.number_of_thing(thing)
    need_few_deeds(deeds, most)
    rooms = _different_rooms(room, deeds)
    for made in rooms:
        for thing in crowd:
            made.number_of_thing(thing)
    return Book(rooms, [crowd for _ in rooms])
