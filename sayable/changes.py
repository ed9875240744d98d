"""Deeds: what changes a room, and what leads back."""

from sayable.bits import bits_of
from sayable.checks import is_list, is_name, is_within
from sayable.errors import BadDeed, BadRoom, TooMany, Unlike
from sayable.roomcheck import GREATEST, MOST_THINGS
from sayable.rooms import Room

# How many items each kind of deed has behind its kind.
DEED_ITEMS = {"put": 1, "take": 1, "mark": 2, "unmark": 2, "tie": 3, "untie": 3, "number": 3}
BACK_KINDS = {"put": "take", "mark": "unmark", "unmark": "mark", "tie": "untie", "untie": "tie"}


def is_deed(value):
    """Whether any value is a deed, for some room or other."""
    if not is_list(value) or not value or not isinstance(value[0], str):
        return False
    kind = value[0]
    if kind not in DEED_ITEMS or len(value) != DEED_ITEMS[kind] + 1:
        return False
    if kind == "put":
        return is_name(value[1])
    if kind == "number":
        return value[3] is None or is_within(value[3], -GREATEST, GREATEST)
    return True


def need_deed(room, deed):
    """Raises what a deed raises that is none, or cannot be done in the room."""
    if not is_deed(deed):
        raise BadDeed("deed")
    kind = deed[0]
    if not _turns_something(room, deed):
        raise BadDeed(kind)
    if kind == "put" and len(room.things) == MOST_THINGS:
        raise TooMany("things", MOST_THINGS)


def _turns_something(room, deed):
    """Whether the room is another one behind it; raises for what the room lacks."""
    kind = deed[0]
    if kind == "put":
        return deed[1] not in room
    if kind == "take":
        room.number_of_thing(deed[1])
        return len(room.things) > 1
    if kind in ("mark", "unmark"):
        return room.holds(deed[1], deed[2]) != (kind == "mark")
    if kind == "number":
        return room.number_of(deed[1], deed[2]) != deed[3]
    led = room.leads(deed[1], deed[2])
    room.number_of_thing(deed[3])
    return (deed[3] in led) != (kind == "tie")


def changed_room(room, deed):
    """The room behind a deed."""
    if not isinstance(room, Room):
        raise BadRoom("room")
    need_deed(room, deed)
    kind = deed[0]
    if kind == "take":
        return room.kept([thing for thing in room.things if thing != deed[1]])
    things = list(room.things)
    words, links, scales = room.word_lists(), room.link_lists(), room.scale_dicts()
    if kind == "put":
        things.append(deed[1])
    elif kind == "mark":
        words[deed[1]].append(deed[2])
    elif kind == "unmark":
        words[deed[1]].remove(deed[2])
    elif kind == "tie":
        links[deed[1]].append((deed[2], deed[3]))
    elif kind == "untie":
        links[deed[1]].remove((deed[2], deed[3]))
    elif deed[3] is None:
        del scales[deed[1]][deed[2]]
    else:
        scales[deed[1]][deed[2]] = deed[3]
    return Room(things, words, links, scales)


def back_deeds(room, deed):
    """The deeds that lead back from the room behind a deed."""
    if not isinstance(room, Room):
        raise BadRoom("room")
    need_deed(room, deed)
    kind = deed[0]
    if kind == "take":
        return (("put", deed[1]),) + _told_of(room, deed[1])
    if kind == "number":
        return (("number", deed[1], deed[2], room.number_of(deed[1], deed[2])),)
    return ((BACK_KINDS[kind], *deed[1:]),)


def _told_of(room, thing):
    """The deeds that tell anew all that is told of a thing, once it is the last one."""
    marks = [("mark", word, thing) for word in room.words if room.holds(word, thing)]
    ties = []
    for link in room.links:
        # The pairs stand in the order of the room in which this thing is the last one.
        heads = [one for one in room.leads(link, thing, True) if one != thing]
        tails = [other for other in room.leads(link, thing) if other != thing]
        selves = [thing] if thing in room.leads(link, thing) else []
        ties.extend([("tie", link, one, thing) for one in heads])
        ties.extend([("tie", link, thing, other) for other in tails + selves])
    numbers = [("number", scale, thing, room.number_of(scale, thing)) for scale in room.scales
               if room.number_of(scale, thing) is not None]
    return tuple(marks + ties + numbers)


def deeds_between(one, other):
    """The deeds that lead from one room to another one of the same things and stock."""
    if not isinstance(one, Room):
        raise BadRoom("one")
    if not isinstance(other, Room):
        raise BadRoom("other")
    if one.stock != other.stock:
        raise Unlike("stock")
    if one.things != other.things:
        raise Unlike("things")
    return tuple(_word_deeds(one, other) + _link_deeds(one, other) + _scale_deeds(one, other))


def _word_deeds(one, other):
    return [("unmark" if one.holds(word, thing) else "mark", word, thing) for word in one.words
            for thing in one.things_in(one.word_mask(word) ^ other.word_mask(word))]


def _link_deeds(one, other):
    deeds = []
    for link in one.links:
        for thing, row, wanted in zip(one.things, one.link_rows(link), other.link_rows(link)):
            for number in bits_of(row ^ wanted):
                kind = "untie" if row >> number & 1 else "tie"
                deeds.append((kind, link, thing, one.things[number]))
    return deeds


def _scale_deeds(one, other):
    deeds = []
    for scale in one.scales:
        for thing in one.things:
            number = other.number_of(scale, thing)
            if number != one.number_of(scale, thing):
                deeds.append(("number", scale, thing, number))
    return deeds
