"""The pairs of ties in rooms."""

from sayable.bits import bits_of
from sayable.checks import is_name
from sayable.errors import BadTie, Twice
from sayable.fields import Field
from sayable.needs import need_room, need_rooms
from sayable.rooms import Room
from sayable.tierows import tie_rows
from sayable.ties import need_tie


def _rows_of(room, tie):
    """The rows of a tie in a room; raises for the first part, in order, that names what the room has not."""
    for part in tie.parts:
        if part[0] == "of":
            room.word_mask(part[1])
        elif part[0] == "link":
            room.link_rows(part[1])
    return tie_rows(Field([room]), tie)


def _pairs_of(room, tie):
    rows = _rows_of(room, tie)
    return tuple([(one, room.things[other]) for one, row in zip(room.things, rows) for other in bits_of(row)])


def tie_pairs(room, tie):
    """The pairs that a tie fits in a room, in order."""
    need_room(room)
    need_tie(tie, "tie")
    return _pairs_of(room, tie)


def pairs_in(rooms, tie):
    """The pairs that a tie fits in each of some rooms."""
    need_rooms(rooms)
    need_tie(tie, "tie")
    return tuple([_pairs_of(room, tie) for room in rooms])


def is_tied(room, tie, one, other):
    """Whether a tie fits two things of a room."""
    need_room(room)
    need_tie(tie, "tie")
    number, second = room.number_of_thing(one), room.number_of_thing(other)
    return _rows_of(room, tie)[number] >> second & 1 == 1


def with_tie(room, name, tie):
    """The room with one link more, whose pairs are those of a tie."""
    need_room(room)
    if not is_name(name):
        raise BadTie("name")
    need_tie(tie, "tie")
    if name in room.links:
        raise Twice(name)
    links = {**room.link_lists(), name: list(_pairs_of(room, tie))}
    return Room(room.things, room.word_lists(), links, room.scale_dicts())
