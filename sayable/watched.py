"""Watched rooms: deeds are done to a room, and it is told whose readings turn."""

from sayable.changes import changed_room
from sayable.checks import is_list, is_name
from sayable.errors import BadDeed, NoName, Nothing, TooMany
from sayable.needs import need_room
from sayable.reads import reading_of

MOST_WATCHED = 24


class Watched:
    """A room as it is now, the deeds that stand, and the sayings that are watched, with their readings."""

    def __init__(self, room):
        need_room(room)
        self.room = room
        self.story = ()
        # The rooms ahead of the deeds that stand, and the deeds that were taken back, the last one at the end.
        self._ahead = ()
        self._taken_back = ()
        self._sayings = {}
        self._readings = {}

    def __eq__(self, other):
        if not isinstance(other, Watched):
            return False
        return (self.room == other.room and self.story == other.story and self._taken_back == other._taken_back
                and list(self._sayings.items()) == list(other._sayings.items()))

    def watch(self, name, saying):
        """Keeps a saying under a name; tells the name if one stood there that read other things."""
        if not is_name(name):
            raise NoName(name)
        reading = reading_of(self.room, saying)
        if name not in self._sayings and len(self._sayings) == MOST_WATCHED:
            raise TooMany("watched", MOST_WATCHED)
        has_turned = name in self._readings and are_other_things(self._readings[name], reading)
        self._sayings[name] = saying
        self._readings[name] = reading
        return (name,) if has_turned else ()

    def do(self, deed):
        """Does a deed; tells the names whose readings turned, as the next two do."""
        changed = changed_room(self.room, deed)
        self._taken_back = ()
        return self._go_on(changed, tuple(deed))

    def undo(self):
        """Takes back the last deed that stands."""
        if not self.story:
            raise Nothing()
        self._taken_back = self._taken_back + (self.story[-1],)
        self.story = self.story[:-1]
        room = self._ahead[-1]
        self._ahead = self._ahead[:-1]
        return self._turned_in(room)

    def again(self):
        """Does the deed again that was taken back last."""
        if not self._taken_back:
            raise Nothing()
        deed = self._taken_back[-1]
        self._taken_back = self._taken_back[:-1]
        return self._go_on(changed_room(self.room, deed), deed)

    def _go_on(self, room, deed):
        """Goes on to the room behind a deed."""
        self._ahead = self._ahead + (self.room,)
        self.story = self.story + (deed,)
        return self._turned_in(room)

    def _turned_in(self, room):
        """Goes to a room, and reads all anew; tells the names whose readings turned."""
        self.room = room
        readings = {name: reading_of(room, self._sayings[name]) for name in self._sayings}
        turned = [name for name in readings if are_other_things(self._readings[name], readings[name])]
        self._readings = readings
        return tuple(turned)

    def sayings(self):
        """The pairs of each name and its saying, in their order."""
        return tuple([(name, self._sayings[name]) for name in self._sayings])

    def readings(self):
        """The pairs of each name and its reading, in their order."""
        return tuple([(name, self._readings[name]) for name in self._readings])

    def copied(self):
        """A Watched that is equal to this one, and goes its own way."""
        made = Watched(self.room)
        made.story = self.story
        made._ahead = self._ahead
        made._taken_back = self._taken_back
        made._sayings = {name: self._sayings[name] for name in self._sayings}
        made._readings = {name: self._readings[name] for name in self._readings}
        return made


def are_other_things(one, other):
    """Whether two readings are of other things, in whatever order they stand."""
    return sorted(one) != sorted(other)


def replayed(room, story):
    """A Watched with this room to which the deeds of a list were done."""
    need_room(room)
    if not is_list(story):
        raise BadDeed("story")
    house = Watched(room)
    for deed in story:
        house.do(deed)
    return house
