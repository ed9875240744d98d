"""Groups of places that are like one another, and rooms merged by them."""

from sayable.alike import LIKE_WAYS, parting_table
from sayable.fields import Field
from sayable.needs import need_few_places, need_room, need_rooms
from sayable.rooms import Room
from sayable.ways import need_way

MERGING_WAYS = ("either", "every", "not", "either.back", "every.back", "not.back")


def groups_alike(rooms, way):
    """The groups: greatest sets of places each of which is like each other one."""
    need_rooms(rooms)
    need_way(way, LIKE_WAYS)
    need_few_places(rooms)
    field = Field(rooms)
    table = parting_table(field, way)
    groups = []
    grouped = set()
    for one in range(field.many):
        if one not in grouped:
            group = [other for other in range(field.many) if table[one][other] is None and table[other][one] is None]
            for other in group:
                grouped.add(other)
            groups.append(tuple([field.all_places[other] for other in group]))
    return tuple(groups)


def merged_room(room, way):
    """The room with the first thing of each group in the place of all."""
    need_room(room)
    need_way(way, MERGING_WAYS)
    groups = groups_alike([room], way)
    first = {place[1]: group[0][1] for group in groups for place in group}
    things = [group[0][1] for group in groups]
    words = {word: [thing for thing in things if room.holds(word, thing)] for word in room.words}
    links = {}
    for link in room.links:
        links[link] = sorted({(first[one], first[other]) for one, other in room.pairs_of(link)})
    return Room(things, words, links)
