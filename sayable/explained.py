"""Words that are explained by other words, and sets of words that are enough."""

from sayable.books import Book
from sayable.checks import is_list
from sayable.errors import BadRoom
from sayable.lists import need_once
from sayable.needs import need_rooms
from sayable.said import least_depth, say_book
from sayable.ways import need_way


def explain_word(rooms, name, way):
    """What say_book tells of the things of a word, in the rooms without this word."""
    return say_book(Book.of_word(rooms, name), way)


def need_names(rooms, names):
    """Raises unless it is a list of different words of the stock."""
    if not is_list(names):
        raise BadRoom("names")
    for name in names:
        rooms[0].word_mask(name)
    need_once(names)


def is_enough(rooms, names, way):
    """Whether each word that is none of the names is explained by them."""
    need_rooms(rooms)
    need_names(rooms, names)
    need_way(way)
    left = [room.cut(words=names) for room in rooms]
    for word in rooms[0].words:
        if word not in names and least_depth(Book(left, [room.things_of(word) for room in rooms]), way) is None:
            return False
    return True


def needless_words(rooms, way):
    """The words that are explained by all others, ascending."""
    need_rooms(rooms)
    need_way(way)
    return tuple([word for word in rooms[0].words if least_depth(Book.of_word(rooms, word), way) is not None])
