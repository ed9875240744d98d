"""Reading likenesses: whether told pairs are closed."""

from sayable.alike import LIKE_WAYS, are_closed
from sayable.checks import is_list
from sayable.fields import Field
from sayable.needs import are_few_rooms, has_few_places, is_place
from sayable.ways import need_way


def _is_pair(rooms, value):
    return is_list(value) and len(value) == 2 and is_place(rooms, value[0]) and is_place(rooms, value[1])


def _told_rows(field, pairs):
    rows = [0] * field.many
    for one, other in pairs:
        number = field.number_of_place(one)
        rows[number] = rows[number] | 1 << field.number_of_place(other)
    return rows


def are_told_closed(field, way, value):
    """Whether any value is a list of pairs of places of a field that are closed in a way."""
    if not is_list(value) or not all([_is_pair(field.rooms, pair) for pair in value]):
        return False
    return are_closed(field, way, _told_rows(field, value))


def shows_likeness(rooms, way, value):
    """Whether any value is a list of pairs of places of these rooms that are closed."""
    if not are_few_rooms(rooms):
        return False
    need_way(way, LIKE_WAYS)
    return has_few_places(rooms) and are_told_closed(Field(rooms), way, value)
