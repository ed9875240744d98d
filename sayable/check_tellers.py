"""Reading papers of tellers: whether an Agreed is right."""

from sayable.alike import LIKE_WAYS
from sayable.books import need_book
from sayable.check_alike import are_told_closed
from sayable.check_said import is_said_by
from sayable.checks import is_list, is_within
from sayable.fields import Field
from sayable.needs import has_few_places, is_place
from sayable.tellers import MOST_TELLERS, Agreed, cut_rooms, need_tellers
from sayable.ways import need_way


def shows_agreed(book, tellers, way, value):
    """Whether any value is a right Agreed for the book and the tellers in the way."""
    need_book(book)
    need_tellers(book.rooms[0], tellers)
    need_way(way, LIKE_WAYS)
    if len(tellers) > MOST_TELLERS or not has_few_places(book.rooms) or not isinstance(value, Agreed):
        return False
    if not _are_crowds(book, value.meant):
        return False
    agreed = book.changed(meant=value.meant)
    for part in (value.likenesses, value.told):
        if not is_list(part) or len(part) != len(tellers):
            return False
    for teller, pairs, saying in zip(tellers, value.likenesses, value.told):
        cut = agreed.changed(cut_rooms(book.rooms, teller))
        if not are_told_closed(Field(cut.rooms), way, pairs) or not is_said_by(cut, way, saying):
            return False
    return _are_steps(book, agreed, value)


def _are_crowds(book, value):
    """Whether any value tells crowds of the rooms, each in the order of its room, that hold the meant things."""
    if not is_list(value) or len(value) != len(book.rooms):
        return False
    for room, crowd, meant in zip(book.rooms, value, book.meant):
        if not is_list(crowd) or tuple(crowd) != tuple([thing for thing in room if thing in crowd]):
            return False
        if not all([thing in crowd for thing in meant]):
            return False
    return True


def _are_steps(book, agreed, value):
    """Whether the steps lead from meant places to all other agreed ones, each by a pair of its teller."""
    if not is_list(value.steps) or not all([is_list(step) and len(step) == 3 for step in value.steps]):
        return False
    places = {place: True for place in agreed.meant_places()}
    reached = {place: True for place in book.meant_places()}
    pairs = [{pair: True for pair in told} for told in value.likenesses]
    for place, teller, start in value.steps:
        if not is_place(book.rooms, place) or not is_place(book.rooms, start):
            return False
        if not is_within(teller, 0, len(pairs) - 1):
            return False
        if place not in places or start not in reached or (start, place) not in pairs[teller]:
            return False
        reached[place] = True
    return all([place in reached for place in places])
