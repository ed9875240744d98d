"""Reading papers of comparing: whether a Compared or a Cut is right."""

from sayable.books import need_book
from sayable.checks import is_list
from sayable.compared import Compared, Cut
from sayable.comparing import COMPARING_KINDS, COMPARING_WAYS, PlaceFacts
from sayable.fields import Field
from sayable.needs import has_few_places, is_place
from sayable.reads import are_readings
from sayable.sayings import Saying
from sayable.ways import kinds_of, need_way, reads_back


def shows_compared(book, way, value):
    """Whether any value is a right Compared or Cut for the book in the way."""
    need_book(book)
    need_way(way, COMPARING_WAYS)
    if not has_few_places(book.rooms):
        return False
    if isinstance(value, Compared):
        return _lets_comparing(way, value.saying) and are_readings(book.rooms, value.saying, book.meant)
    return isinstance(value, Cut) and _shows_cut(book, way, value)


def _lets_comparing(way, saying):
    """Whether any value is a Saying that the way lets, top and above with it."""
    if not isinstance(saying, Saying) or (saying.is_back and not reads_back(way)):
        return False
    kinds = kinds_of(way) + COMPARING_KINDS
    return all([kind in kinds for kind in saying.kinds])


def _shows_cut(book, way, value):
    """Whether the classes are a stable parting, of one class of which are a meant place and another one."""
    if not is_place(book.rooms, value.one) or not is_place(book.rooms, value.other):
        return False
    if value.one not in book.meant_places() or value.other not in book.other_places():
        return False
    field = Field(book.rooms)
    colors = _told_colors(field, value.parting)
    if colors is None or colors[field.number_of_place(value.one)] != colors[field.number_of_place(value.other)]:
        return False
    facts = PlaceFacts(field, way)
    return facts.is_stable(colors)


def _told_colors(field, parting):
    """For each place the number of its class in any value that tells a parting; None if it tells none."""
    if not is_list(parting) or not all([is_list(group) and group for group in parting]):
        return None
    found = {}
    for color, group in enumerate(parting):
        for place in group:
            if not is_place(field.rooms, place) or field.number_of_place(place) in found:
                return None
            found[field.number_of_place(place)] = color
    if len(found) < field.many:
        return None
    return [found[place] for place in range(field.many)]
