"""Rooms side by side."""

from sayable.checks import joined_name
from sayable.errors import BadRoom, Unlike
from sayable.rooms import Room


def rooms_beside(*rooms):
    """The rooms as one room, in which no link leads from one of them to another."""
    if not rooms or not all([isinstance(room, Room) for room in rooms]):
        raise BadRoom("rooms")
    first = rooms[0]
    if not all([room.stock == first.stock for room in rooms]):
        raise Unlike("stock")
    moved = [_moved(number, room) for number, room in enumerate(rooms)]
    words = {word: [thing for room in moved for thing in room.things_of(word)] for word in first.words}
    links = {link: [pair for room in moved for pair in room.pairs_of(link)] for link in first.links}
    told = [room.scale_dicts() for room in moved]
    scales = {scale: {thing: numbers[scale][thing] for numbers in told for thing in numbers[scale]}
              for scale in first.scales}
    return Room([thing for room in moved for thing in room.things], words, links, scales)


def _moved(number, room):
    return room.renamed({thing: joined_name(f"r{number}", thing) for thing in room.things})
