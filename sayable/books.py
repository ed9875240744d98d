"""Books: rooms that may be, and in each of them the things that are meant."""

from sayable.checks import is_list
from sayable.errors import BadBook
from sayable.lists import need_crowd
from sayable.needs import need_rooms


def need_book(book):
    """Raises unless it is a Book."""
    if not isinstance(book, Book):
        raise BadBook("book")


def _checked_crowds(rooms, meant):
    """The crowds, each in the order of its room; raises what is told of those of a book."""
    if not is_list(meant) or len(meant) != len(rooms) or not all([is_list(crowd) for crowd in meant]):
        raise BadBook("meant")
    return tuple([_checked_crowd(room, crowd) for room, crowd in zip(rooms, meant)])


def _checked_crowd(room, crowd):
    need_crowd(room, crowd)
    return tuple([thing for thing in room.things if thing in crowd])


class Book:
    """One room or more, all of one stock, and for each of them a crowd: the meant things."""

    def __init__(self, rooms, meant):
        need_rooms(rooms)
        self.rooms = tuple(rooms)
        self.meant = _checked_crowds(self.rooms, meant)

    def __eq__(self, other):
        return isinstance(other, Book) and self.rooms == other.rooms and self.meant == other.meant

    def places(self):
        """All places, in order."""
        return tuple([(index, thing) for index, room in enumerate(self.rooms) for thing in room.things])

    def meant_places(self):
        """The meant places, in order."""
        return tuple([(index, thing) for index, crowd in enumerate(self.meant) for thing in crowd])

    def other_places(self):
        """The places that are not meant, in order."""
        return tuple([place for place in self.places() if place[1] not in self.meant[place[0]]])

    @staticmethod
    def of_word(rooms, word):
        """The book of the things of which a word holds, in the rooms without this word."""
        need_rooms(rooms)
        meant = [room.things_of(word) for room in rooms]
        left = [name for name in rooms[0].words if name != word]
        return Book([room.cut(words=left) for room in rooms], meant)

    def changed(self, rooms=None, meant=None):
        """The book with these rooms or crowds in the place of its own."""
        return Book(self.rooms if rooms is None else rooms, self.meant if meant is None else meant)

    def cut(self, words=None, links=None):
        """The book whose rooms have these words and links alone; None: with all."""
        return Book([room.cut(words, links) for room in self.rooms], self.meant)
