"""Reading papers of fewest words and fewest names: whether a LeastStock or a FewNames is right."""

from sayable.books import Book
from sayable.check_said import is_said_by, shows_said
from sayable.checks import is_list
from sayable.errors import TooMany
from sayable.explained import words_without
from sayable.fewnames import FewNames, are_few_sets, need_free_names
from sayable.leastwords import MOST_STOCK, LeastStock
from sayable.needs import are_few_rooms, has_few_places, need_room
from sayable.roomcheck import MOST_WORDS
from sayable.said import Unsaid
from sayable.subsets import subsets
from sayable.ways import need_way


def shows_stock(rooms, way, value):
    """Whether any value is a right LeastStock for these rooms in the way."""
    if not are_few_rooms(rooms):
        return False
    need_way(way)
    stock = rooms[0].words
    if len(stock) > MOST_STOCK or (stock and not has_few_places(rooms)) or not isinstance(value, LeastStock):
        return False
    if not _is_set(value.words, stock):
        return False
    books = [_word_book(rooms, word, value.words) for word in words_without(rooms, value.words)]
    if not _are_told(value.told, words_without(rooms, value.words), books, way):
        return False
    fewer = subsets(stock, len(value.words) - 1) if value.words else []
    if not _are_rows(value.lacking, fewer, stock):
        return False
    return all([shows_said(_word_book(rooms, word, names), way, paper) for names, word, paper in value.lacking])


def shows_names(room, way, value):
    """Whether any value is a right FewNames for the room in the way."""
    need_room(room)
    need_way(way)
    try:
        need_free_names(room)
    except TooMany:
        return False
    if not isinstance(value, FewNames) or not _is_set(value.things, room.things):
        return False
    size = len(value.things)
    if not all([are_few_sets(room, many) for many in range(size + 1)]) or len(room.words) + size > MOST_WORDS:
        return False
    books = [_thing_book(room, thing, value.things) for thing in room]
    if not _are_told(value.told, list(room.things), books, way):
        return False
    fewer = subsets(room.things, size - 1) if size else []
    if not _are_rows(value.lacking, fewer, room.things):
        return False
    return all([shows_said(_thing_book(room, thing, things), way, paper) for things, thing, paper in value.lacking])


def _word_book(rooms, word, names):
    """The book of the things of a word, in the rooms cut to the names."""
    return Book([room.cut(words=names) for room in rooms], [room.things_of(word) for room in rooms])


def _thing_book(room, thing, things):
    """The book of one thing alone, in the room with names for the things."""
    return Book([room.named(things)], [[thing]])


def _is_set(value, items):
    """Whether any value is a tuple of some of the items, in their order, each once."""
    return is_list(value) and tuple(value) == tuple([item for item in items if item in value])


def _are_told(value, items, books, way):
    """Whether any value tells, for just these items, in order, a saying that says the book of each."""
    if not is_list(value) or not all([is_list(row) and len(row) == 2 for row in value]):
        return False
    if [row[0] for row in value] != items:
        return False
    return all([is_said_by(book, way, row[1]) for book, row in zip(books, value)])


def _are_rows(value, sets, items):
    """Whether any value has, for just these sets, in order, a triple of it, an item that it has not, and an Unsaid."""
    if not is_list(value) or not all([is_list(row) and len(row) == 3 for row in value]):
        return False
    if [row[0] for row in value] != sets:
        return False
    for names, item, paper in value:
        if item not in items or item in names or not isinstance(paper, Unsaid):
            return False
    return True
