"""Reading sayings in rooms."""

from sayable.errors import Twice
from sayable.fits import fitted_mask, scaled_mask
from sayable.needs import need_room, need_rooms, need_saying
from sayable.sayings import Saying


def _further_masks(room, more):
    """The masks of the further words, names ascending."""
    names = sorted(more)
    for name in names:
        if name in room.words:
            raise Twice(name)
    masks = {}
    for name in names:
        mask = 0
        for thing in more[name]:
            mask = mask | 1 << room.number_of_thing(thing)
        masks[name] = mask
    return masks


def _word_mask(room, further, word):
    if word in further:
        return further[word]
    return room.word_mask(word)


def _part_mask(room, part, masks, further):
    kind = part[0]
    if kind == "word":
        return _word_mask(room, further, part[1])
    if kind == "top":
        return scaled_mask(kind, room.scale_row(part[1]), masks[part[2]])
    if kind == "above":
        return scaled_mask(kind, room.scale_row(part[1]), _word_mask(room, further, part[2]))
    rows = ()
    if kind in ("some", "every", "least"):
        rows = room.link_rows(part[-3], part[-2] == "back")
    return fitted_mask(part, masks, (1 << len(room.things)) - 1, rows)


def read_mask(room, saying, further):
    """The things that a saying fits, as a mask; further tells the masks of further words.

    Raises for the first part, in order, that names what the room has not.
    """
    masks = []
    for part in saying.parts:
        masks.append(_part_mask(room, part, masks, further))
    return masks[-1]


def need_in_stock(room, saying, further):
    """Raises for the first part, in order, that names what the room has not; further words it has, too."""
    for part in saying.parts:
        if part[0] in ("top", "above"):
            room.scale_row(part[1])
        if part[0] in ("word", "above") and part[-1] not in further:
            room.word_mask(part[-1])
        if part[0] in ("some", "every", "least"):
            room.link_rows(part[-3])


def has_names(room, saying):
    """Whether all words, links and scales of a saying are those of the room."""
    if not all([word in room.words for word in saying.words]):
        return False
    return all([link in room.links for link in saying.links]) and all([scale in room.scales for scale in saying.scales])


def are_readings(rooms, saying, crowds):
    """Whether any value is a Saying, with names of the stock alone, whose readings in the rooms are these crowds."""
    if not isinstance(saying, Saying) or not has_names(rooms[0], saying):
        return False
    return tuple([room.things_in(read_mask(room, saying, {})) for room in rooms]) == crowds


def reading_of(room, saying, more=None):
    """The things of the room that a saying fits; more tells the things of further words."""
    need_room(room)
    need_saying(saying)
    further = {} if more is None else _further_masks(room, more)
    return room.things_in(read_mask(room, saying, further))


def does_fit(room, saying, thing):
    """Whether a saying fits a thing of the room."""
    need_room(room)
    need_saying(saying)
    number = room.number_of_thing(thing)
    return read_mask(room, saying, {}) >> number & 1 == 1


def readings_in(rooms, saying):
    """The readings of a saying in some rooms of one stock."""
    need_rooms(rooms)
    need_saying(saying)
    return tuple([room.things_in(read_mask(room, saying, {})) for room in rooms])
