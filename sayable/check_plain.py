"""Reading likenesses of points: whether told pairs are closed."""

from sayable.fields import Field
from sayable.needs import are_few_rooms, has_few_places
from sayable.pairread import PointPairs, are_closed_pairs
from sayable.points import plain_way


def shows_point_likeness(rooms, value, back=False):
    """Whether any value is a list of pairs of a point and a place of these rooms that are closed."""
    if not are_few_rooms(rooms) or not has_few_places(rooms):
        return False
    pairs = PointPairs(Field(rooms), plain_way(back))
    rows = pairs.told_rows(value)
    return rows is not None and are_closed_pairs(pairs, rows)
