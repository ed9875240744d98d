"""What is asked of arguments: each function raises unless the value is what is needed."""

from sayable.checks import is_list, is_within
from sayable.errors import BadBook, BadNumbers, BadPlace, BadRoom, BadSaying, TooMany, Unlike
from sayable.rooms import Room
from sayable.sayings import Saying

MOST_ROOMS = 64
MOST_PLACES = 100


def need_room(room):
    """Raises unless it is a Room."""
    if not isinstance(room, Room):
        raise BadRoom("room")


def need_saying(saying):
    """Raises unless it is a Saying."""
    if not isinstance(saying, Saying):
        raise BadSaying("saying")


def need_rooms(rooms):
    """Raises unless it is a list of one or more Rooms of one stock, and of no more than may be."""
    if not is_list(rooms) or not rooms or not all([isinstance(room, Room) for room in rooms]):
        raise BadBook("rooms")
    if not all([room.stock == rooms[0].stock for room in rooms]):
        raise Unlike("stock")
    if len(rooms) > MOST_ROOMS:
        raise TooMany("rooms", MOST_ROOMS)


def are_few_rooms(rooms):
    """False where only the number of the rooms is refused; raises what else is."""
    try:
        need_rooms(rooms)
    except TooMany:
        return False
    return True


def is_place(rooms, value):
    """Whether any value is a place of these rooms."""
    if not is_list(value) or len(value) != 2:
        return False
    return is_within(value[0], 0, len(rooms) - 1) and value[1] in rooms[value[0]]


def need_place(rooms, value, part):
    """Raises unless it is a place of these rooms."""
    if not is_place(rooms, value):
        raise BadPlace(part)


def need_rounds(rounds):
    """Raises unless it is None, or an integer from 0 on."""
    if rounds is not None and not is_within(rounds, 0, None):
        raise BadNumbers("rounds")


def has_few_places(rooms):
    """Whether the rooms have no more places than may be."""
    return sum([len(room) for room in rooms]) <= MOST_PLACES


def need_few_places(rooms):
    """Raises if the rooms have more places than may be."""
    if not has_few_places(rooms):
        raise TooMany("places", MOST_PLACES)
